import PyProof.Rows.All
import HandS.ExcInit
import HandS.ExcField
import HandS.Words
import HandS.Head2
import HandS.HeadHook4
import HandS.ExcIs
import PySem.Challenge.RW_clearfloor_k25_lines_of_a_report
import Wide.All
import OpenK.AllK
import Wide.FinOn
import HandS.ForMost
import HandS.Walk
import HandS.DictComp
import HandS.AnyAll
import KE.KDictKeyed
import HandS.WideMore
import PyProof.StrBlock2
import HandS.IsInst
import HandS.StrMore
import HandS.SortInts
import PyProof.ReprRoads
import HandS.RaiseMore
import HandS.SetFor
import HandS.Deep
import KE.KDictZip
import HandS.FStr
import HandS.Replace
import HandS.Conv
import HandS.GenList
import PyProof.SumAny
import KE.KNest
import HandS.Style
import HandS.ReplaceLit
import PyProof.ToksMono
import HandS.Zip
import HandS.SetBool
import HandS.Strs
import HandS.ForExc
import HandS.Defaults
import HandS.ExcOwn
import HandS.TryOnly
import HandS.MakeKwOnly
import HandS.Dict
import HandS.More
import HandS.Nested
import KE.KExcSuper
import PyProof.StrLawsChain
import KE.KIntText
import PyProof.Rows.ReprOcc
import PyProof.Rows.StrIntSpec
import KE.KStateDown
import HandS.Head0
import HandS.Head1
set_option Elab.async false
set_option linter.all false
set_option maxRecDepth 100000
set_option maxHeartbeats 0
namespace Q
open PySem PySem.Spec PyProof.Rows L2
def yK (K : PySem.W.Frag) (C : Addr) : Bool := (match K.lookup C with
 | some ⟨.type "type", _, .cls cd, sl⟩ => (match cd.mro, sl.toList with
  | .ref C' :: bm, [_, _, _, _, some (.builtin n), _] => C' == C && (n == "ValueError.__new__" && (!cd.hasDel && (cd.hasDict && PySem.HandSPX.refsVE bm)))
  | _, _ => false)
 | _ => false) && (He.eqO (PySem.W.findIn K (.ref C) "__setattr__") (some (some (.builtin "object.__setattr__"))) && (decide (PySem.W.subIn K (.ref C) (.type "BaseException") = some true) && (decide (PySem.W.typeIn K (.ref C) = some (.type "type")) && PySem.W.keepIn K (.ref C))))
theorem xa {K : PySem.W.Frag} {C : Addr} (h : yK K C = true) : OexC K C := by
 obtain ⟨h1, h2⟩ := He.ba h
 obtain ⟨h2, h3⟩ := He.ba h2
 obtain ⟨h3, h4⟩ := He.ba h3
 obtain ⟨h4, h5⟩ := He.ba h4
 refine ⟨?_, He.eqO_ok h2, of_decide_eq_true h3, of_decide_eq_true h4, h5⟩
 split at h1
 ·rename_i dd cd sl ho
  split at h1
  ·rename_i C' bm k0 k1 k2 k3 n k5 hm hs
   simp only [Bool.and_eq_true, beq_iff_eq, Bool.not_eq_true'] at h1
   obtain ⟨rfl, rfl, hdel, hd, hr⟩ := h1
   obtain ⟨nm, bs, mro, ns, qn, hdc, sn, sub, ab, col, del⟩ := cd
   dsimp only at hm hdel hd hr
   subst hm hdel hd
   have hsl : sl = #[k0, k1, k2, k3, some (.builtin "ValueError.__new__"), k5] := by
    obtain ⟨l⟩ := sl
    simp only at hs
    rw [hs]
   subst hsl
   exact ⟨nm, qn, ns, bs, bm, sn, sub, ab, col, dd, k0, k1, k2, k3, k5, ho, hr⟩
  ·cases h1
 ·cases h1
abbrev pN : Type := Option (Str × Str × Arguments × FuncBody × Scope × Addr × List Str × Addr)
def lO (K : PySem.W.Frag) (p : Str × Option Str) : pN := match K.lookup (He.fAd K p) with
 | some ⟨_, _, .func fd, _⟩ => some (fd.name, fd.qualname, fd.params, fd.body, fd.scope, fd.globals, fd.closure.map (·.1), fd.builtins)
 | _ => none
structure eF where
 at_ : Str × Option Str
 qual : Str
 st : Stmt
 dvs : List V
def eF.val (d : eF) : pN := some ("__init__", d.qual, defArgs d.st, .stmts (defBody d.st), defScope d.st, mainGlobals, ["__class__"], builtinsNs)
def yi (P : Program) (K : PySem.W.Frag) (d : eF) : Bool := yK K (He.ga K d.at_.1) && (He.eqO (PySem.W.findIn K (.ref (He.ga K d.at_.1)) "__init__") (some (some (.ref (He.fAd K d.at_)))) && (decide (PySem.W.typeIn K (.ref (He.fAd K d.at_)) = some (.type "function")) && (decide (PySem.W.mroIn K (He.ga K d.at_.1) (.ref (He.ga K d.at_.1)) = some true) && (decide (PySem.W.subIn K (.ref (He.ga K d.at_.1)) (.type "ValueError") = some true) &&
 ((match PySem.W.clsIn K (He.ga K d.at_.1) with
  | some cd => He.eqO (PySem.W.alongIn K "__init__" ((cd.mro.dropWhile (· != .ref (He.ga K d.at_.1))).drop 1)) (some (some (.builtin "ValueError.__init__")))
  | none => false) &&
 (match K.lookup (He.fAd K d.at_) with
 | some ⟨_, _, .func fd, _⟩ => (match fd.code, fd.closure with
  | .ref cda, [(_, cc)] => PySem.W.codeIn K (.ref cda) d.qual && (He.dflB K fd.defaults d.dvs && ((match K.lookup cda with
    | some ⟨_, _, .fields vs, _⟩ => (match (vs[2]? : Option Value) with
     | some (.str fl _) => ((P.main.file : Str) == fl)
     | _ => false)
    | _ => false) && (match K.lookup cc with
    | some ⟨_, _, .cell (some (.ref C')), _⟩ => decide (C' = He.ga K d.at_.1)
    | _ => false)))
  | _, _ => false)
 | _ => false))))))
def noTab (p : Addr × Obj) : Bool := match p.2.cls, p.2.data with
 | .none, .fields _ => false
 | _, _ => true
def frS (g : Addr → Option Obj) (as : List Addr) : PySem.W.Frag := (He.frG g as).filter noTab
theorem qD {g : Addr → Option Obj} {as : List Addr} {a : Addr} {o : Obj} (h : (frS g as).lookup a = some o) : g a = some o ∧ noTab (a, o) = true := by
 obtain ⟨h1, h2⟩ := List.mem_filter.mp (He.lookup_mem h)
 exact ⟨He.frG_mem h1, h2⟩
theorem zU {as : List Addr} {h : Heap} : (frS h.get? as).In h := fun _ _ e => (qD e).1
theorem uq {g : Addr → Option Obj} {as : List Addr} {a : Addr} {o : Obj} (h : g a = some o) (ht : He.emptyTab o = true) : (frS g as).lookup a = none := by
 cases e : (frS g as).lookup a with
 | none => rfl
 | some u =>
  obtain ⟨h1, h2⟩ := qD e
  rw [h] at h1
  have h3 := Option.some.inj h1
  subst h3
  rw [He.emptyTab_eq ht] at h2
  cases h2
abbrev AlY : Type := He.AlX × List pN
def Bk (fa : List He.Fa) (fn : List He.DefD) (ts : List He.Tab) (tf : List He.Defn) (es : List eF) (ex : PySem.W.Frag → Bool) (g : Addr → Option Obj) (K : PySem.W.Frag) : AlY := ((He.obsT fa fn ts K, ex K && He.tabsB g tf K), es.map fun d => lO K d.at_)
def mw (as : List Addr) (fa : List He.Fa) (fn : List He.DefD) (ts : List He.Tab) (tf : List He.Defn) (es : List eF) (ex : PySem.W.Frag → Bool) (g : Addr → Option Obj) : AlY := Bk fa fn ts tf es ex g (frS g as)
def y7 (fn : List He.DefD) (ts : List He.Tab) (es : List eF) (w : World) : AlY := ((He.valT fn ts w, true), es.map eF.val)
structure iB (fa : List He.Fa) (fn : List He.DefD) (ts : List He.Tab) (tf : List He.Defn) (es : List eF) (ex : PySem.W.Frag → Bool) (w : World) (h : Heap) (K : PySem.W.Frag) : Prop where
 x : He.SaysX fa fn ts tf ex w h K
 er : es.map (fun d => lO K d.at_) = es.map eF.val
theorem u6 {as : List Addr} {fa : List He.Fa} {fn : List He.DefD} {ts : List He.Tab} {tf : List He.Defn} {es : List eF} {ex : PySem.W.Frag → Bool} {w : World} {h : Heap} (e : mw as fa fn ts tf es ex h.get? = y7 fn ts es w) : iB fa fn ts tf es ex w h (frS h.get? as) := by
 have e1 : He.obsT fa fn ts (frS h.get? as) = He.valT fn ts w := congrArg (fun z : AlY => z.1.1) e
 have e2 : (ex (frS h.get? as) && He.tabsB h.get? tf (frS h.get? as)) = true := congrArg (fun z : AlY => z.1.2) e
 have e3 : es.map (fun d => lO (frS h.get? as) d.at_) = es.map eF.val := congrArg (fun z : AlY => z.2) e
 obtain ⟨h1, h2⟩ := He.ba e2
 have key : ∀ p ∈ tf, PySem.W.codeHdIn (frS h.get? as) (He.cT (frS h.get? as) p).1 (He.cT (frS h.get? as) p).2 = true ∧ ∃ o, h.get? (He.cT (frS h.get? as) p).2 = some o ∧ He.emptyTab o = true := fun p hp => by
  obtain ⟨h3, h4⟩ := He.ba (List.all_eq_true.mp h2 p hp)
  refine ⟨h3, ?_⟩
  cases q : h.get? (He.cT (frS h.get? as) p).2 with
  | none => rw [q] at h4; cases h4
  | some o => rw [q] at h4; exact ⟨o, rfl, h4⟩
 refine ⟨⟨e1, h1, fun p hp => (key p hp).1, fun p hp => ?_, fun p hp => ?_⟩, e3⟩
 ·obtain ⟨_, o, q, z⟩ := key p hp
  exact uq q z
 ·obtain ⟨_, o, q, z⟩ := key p hp
  rw [q, He.emptyTab_eq z]
def nM (as : List Addr) (fa : List He.Fa) (fn : List He.DefD) (ts : List He.Tab) (tf : List He.Defn) (es : List eF) (ex : PySem.W.Frag → Bool) : PySem.W.Hook where
 α := AlY
 obs := fun s => mw as fa fn ts tf es ex s.heap.get?
 val := fun w => y7 fn ts es w
 says := fun w h => ∃ K : PySem.W.Frag, K.In h ∧ iB fa fn ts tf es ex w h K
 of := fun _ _ e => ⟨_, zU, u6 e⟩
 keeps := fun _ _ _ ⟨K, hK, c⟩ k => ⟨K, PySem.W.Frag.In.keeps hK k, ⟨⟨c.x.t, c.x.more, c.x.hd, c.x.out, fun p hp => k _ _ (c.x.empty p hp)⟩, c.er⟩⟩
theorem xh {as : List Addr} {fa : List He.Fa} {fn : List He.DefD} {ts : List He.Tab} {tf : List He.Defn} {es : List eF} {ex : PySem.W.Frag → Bool} (s : PySem.W.SharedT) : mw as fa fn ts tf es ex (HandSHeadRun.getT s) = (nM as fa fn ts tf es ex).obs s.abs := by
 have e : HandSHeadRun.getT s = s.abs.heap.get? := funext fun a => HandSHeadRun.getT_eq s a
 rw [e] <;> rfl
section
variable {fa : List He.Fa} {fn : List He.DefD} {ts : List He.Tab} {tf : List He.Defn} {es : List eF} {ex : PySem.W.Frag → Bool} {w : World} {h : Heap} {K : PySem.W.Frag}
theorem iB.fact (c : iB fa fn ts tf es ex w h K) (i : Nat) {f : He.Fa} (e : fa[i]? = some f) : f.ok K = true := c.x.t.d.fact i e
theorem iB.dfn (c : iB fa fn ts tf es ex w h K) (i : Nat) {d : He.DefD} (e : fn[i]? = some d) : ∃ fd, FunD K d.name d.qual d.params d.body d.scope (d.dvs K) (d.kws K) (He.fAd K d.at_) fd := c.x.t.d.def_ i e
theorem iB.err (c : iB fa fn ts tf es ex w h K) (i : Nat) {d : eF} (e : es[i]? = some d) : lO K d.at_ = d.val := by
 have e2 : (es.map fun d => lO K d.at_)[i]? = (es.map eF.val)[i]? := by rw [c.er]
 rw [List.getElem?_map, List.getElem?_map, e] at e2
 exact Option.some.inj e2
end
end Q
noncomputable section
namespace Q
open PySem PySem.W PySem.Calls PyProof.Rows HandSHeadRun
abbrev m9 {β : Type} (r : OpenRow) (M : Nat) (f : SharedT → β) (w : World) (os : OsState) : Option β := (endF (stepQ (denQ tabQ) r.prog w) M r.prog w os).map f
abbrev KT (as : List Addr) (s : SharedT) : PySem.W.Frag := frS (getT s) as
def rD (r : OpenRow) (q : Program) (M : Nat) (loose : List PySem.Str) (w : World) : Prop := ∀ os, m9 r M (fun s => (looksF r.prog (boot_heap w.params) s.abs, seenQ q loose (importedModules r.prog.main.body) (fun s => xlAt q [] s && recOk r.toRowW.records s) s.abs)) w os = some (true, openGood q loose)
def rZ (r : OpenRow) (M : Nat) (as : List Addr) (fa : List He.Fa) (fn : List He.DefD) (w : World) : Prop := ∀ os, m9 r M (fun s => ((fa.all fun f => f.ok (KT as s)) && fn.all fun d => d.ok (KT as s))) w os = some true
def r0 (r : OpenRow) (M : Nat) (as : List Addr) (fn : List He.DefD) (w : World) : Prop := ∀ os, m9 r M (fun s => fn.map fun d => He.fnW (KT as s) d.at_) w os = some (fn.map He.DefD.val)
def sf (r : OpenRow) (M : Nat) (as : List Addr) (ts : List He.Tab) (tf : List He.Defn) (es : List eF) (ex : PySem.W.Frag → Bool) (w : World) : Prop := ∀ os, m9 r M (fun s => (ts.map fun t => He.dicW (KT as s) (t.1 (KT as s)), (ex (KT as s) && He.tabsB (getT s) tf (KT as s), es.map fun d => lO (KT as s) d.at_))) w os = some (ts.map fun t => some (He.keysIn w.params t.2), (true, es.map eF.val))
theorem sG {r : OpenRow} {q : Program} {M : Nat} {loose : List PySem.Str} {as : List Addr} {fa : List He.Fa} {fn : List He.DefD} {ts : List He.Tab} {tf : List He.Defn} {es : List eF} {ex : PySem.W.Frag → Bool} {w : World}
  (h1 : rD r q M loose w) (h2 : rZ r M as fa fn w) (h3 : r0 r M as fn w) (h4 : sf r M as ts tf es ex w) : RunEq r q (nM as fa fn ts tf es ex) (fun s => mw as fa fn ts tf es ex (getT s)) M loose w := fun os => by
 have a1 := h1 os
 have a2 := h2 os
 have a3 := h3 os
 have a4 := h4 os
 unfold m9 at a1 a2 a3 a4
 generalize endF (stepQ (denQ tabQ) r.prog w) M r.prog w os = o at a1 a2 a3 a4 ⊢
 cases o with
 | none => cases a1
 | some s =>
  have b1 := Option.some.inj a1
  have b2 := Option.some.inj a2
  have b3 := Option.some.inj a3
  have b4 := Option.some.inj a4
  dsimp only at b1 b2 b3 b4
  have c1 := congrArg Prod.fst b1
  have c2 := congrArg Prod.snd b1
  have d1 := congrArg Prod.fst b4
  have d2 := congrArg (fun z => z.2.1) b4
  have d3 := congrArg (fun z => z.2.2) b4
  dsimp only at c1 c2 d1 d2 d3
  refine congrArg some (Prod.ext c1 (Prod.ext c2 ?_))
  refine Prod.ext (Prod.ext (Prod.ext (Prod.ext b2 b3) d1) d2) d3
end Q
end
namespace Q
open PySem PySem.Spec PyProof.Rows L2
def wh (K : PySem.W.Frag) (D : Addr) : Bool := decide (PySem.W.findIn K (.ref D) "__getattribute__" = some (some (.builtin "BaseException.__getattribute__"))) && (decide (PySem.W.findIn K (.ref D) "__getattr__" = some none) && (decide (PySem.W.subIn K (.ref D) (.type "BaseException") = some true) && (PySem.W.hasDictIn K D &&
 (decide (PySem.W.findIn K (.ref D) "__class__" = some (some (.builtin "object.__class__"))) && (decide (PySem.W.specialIn K (.builtin "object.__class__") "__get__" = some (some (.builtin "getset_descriptor.__get__"))) && (decide (PySem.W.takesIn K (.builtin "object.__class__") = some true) && decide (PySem.W.mroIn K D (.type "object") = some true)))))))
theorem vc {K : PySem.W.Frag} {D : Addr} (h : wh K D = true) : ExcC K D := by
 obtain ⟨h1, h⟩ := Bool.and_eq_true_iff.mp h
 obtain ⟨h2, h⟩ := Bool.and_eq_true_iff.mp h
 obtain ⟨h3, h⟩ := Bool.and_eq_true_iff.mp h
 obtain ⟨h4, h⟩ := Bool.and_eq_true_iff.mp h
 obtain ⟨h5, h⟩ := Bool.and_eq_true_iff.mp h
 obtain ⟨h6, h⟩ := Bool.and_eq_true_iff.mp h
 obtain ⟨h7, h8⟩ := Bool.and_eq_true_iff.mp h
 exact ⟨of_decide_eq_true h1, of_decide_eq_true h2, of_decide_eq_true h3, h4, of_decide_eq_true h5, of_decide_eq_true h6, of_decide_eq_true h7, of_decide_eq_true h8⟩
end Q
namespace Law
open PySem PySem.Spec PyProof.Rows L2 Q
def aQ (i : Nat) : Stmt := PySem.Challenge.pw_clearfloor_k25_lines_of_a_report.main.body.getD i (.Pass ⟨0, 0, 0, 0⟩)
def CS : List He.DefD := [
 ⟨(("_law_cell", none) : Str × Option Str), "_law_cell", "_law_cell", defArgs (aQ 23), defBody (aQ 23), defScope (aQ 23), [], []⟩,
 ⟨(("_law_digits", none) : Str × Option Str), "_law_digits", "_law_digits", defArgs (aQ 24), defBody (aQ 24), defScope (aQ 24), [], []⟩,
 ⟨(("_law_draw", none) : Str × Option Str), "_law_draw", "_law_draw", defArgs (aQ 25), defBody (aQ 25), defScope (aQ 25), [], []⟩,
 ⟨(("_law_place", none) : Str × Option Str), "_law_place", "_law_place", defArgs (aQ 26), defBody (aQ 26), defScope (aQ 26), [], []⟩,
 ⟨(("_law_number", none) : Str × Option Str), "_law_number", "_law_number", defArgs (aQ 27), defBody (aQ 27), defScope (aQ 27), [], []⟩,
 ⟨(("_law_robot", none) : Str × Option Str), "_law_robot", "_law_robot", defArgs (aQ 28), defBody (aQ 28), defScope (aQ 28), [], []⟩,
 ⟨(("_law_order", none) : Str × Option Str), "_law_order", "_law_order", defArgs (aQ 29), defBody (aQ 29), defScope (aQ 29), [], []⟩,
 ⟨(("_law_told", none) : Str × Option Str), "_law_told", "_law_told", defArgs (aQ 30), defBody (aQ 30), defScope (aQ 30), [], []⟩,
 ⟨(("_law_place_word", none) : Str × Option Str), "_law_place_word", "_law_place_word", defArgs (aQ 31), defBody (aQ 31), defScope (aQ 31), [], []⟩,
 ⟨(("_law_robot_line", none) : Str × Option Str), "_law_robot_line", "_law_robot_line", defArgs (aQ 32), defBody (aQ 32), defScope (aQ 32), [], []⟩,
 ⟨(("_law_order_line", none) : Str × Option Str), "_law_order_line", "_law_order_line", defArgs (aQ 33), defBody (aQ 33), defScope (aQ 33), [], []⟩,
 ⟨(("_law_lines", none) : Str × Option Str), "_law_lines", "_law_lines", defArgs (aQ 34), defBody (aQ 34), defScope (aQ 34), [], []⟩,
 ⟨(("write_place", none) : Str × Option Str), "write_place", "write_place", defArgs (aQ 9), defBody (aQ 9), defScope (aQ 9), [], []⟩,
 ⟨(("write_robot", none) : Str × Option Str), "write_robot", "write_robot", defArgs (aQ 10), defBody (aQ 10), defScope (aQ 10), [], []⟩,
 ⟨(("write_order", none) : Str × Option Str), "write_order", "write_order", defArgs (aQ 11), defBody (aQ 11), defScope (aQ 11), [], []⟩,
 ⟨(("write_report", none) : Str × Option Str), "write_report", "write_report", defArgs (aQ 12), defBody (aQ 12), defScope (aQ 12), [], []⟩,
 ⟨(("read_number", none) : Str × Option Str), "read_number", "read_number", defArgs (aQ 6), defBody (aQ 6), defScope (aQ 6), [], []⟩,
 ⟨(("read_place", none) : Str × Option Str), "read_place", "read_place", defArgs (aQ 13), defBody (aQ 13), defScope (aQ 13), [], []⟩,
 ⟨(("read_share", none) : Str × Option Str), "read_share", "read_share", defArgs (aQ 14), defBody (aQ 14), defScope (aQ 14), [], []⟩,
 ⟨(("read_way", none) : Str × Option Str), "read_way", "read_way", defArgs (aQ 15), defBody (aQ 15), defScope (aQ 15), [], []⟩,
 ⟨(("read_errand", none) : Str × Option Str), "read_errand", "read_errand", defArgs (aQ 16), defBody (aQ 16), defScope (aQ 16), [], []⟩,
 ⟨(("read_robot", none) : Str × Option Str), "read_robot", "read_robot", defArgs (aQ 17), defBody (aQ 17), defScope (aQ 17), [], []⟩,
 ⟨(("read_order_state", none) : Str × Option Str), "read_order_state", "read_order_state", defArgs (aQ 19), defBody (aQ 19), defScope (aQ 19), [], []⟩,
 ⟨(("is_letter", none) : Str × Option Str), "is_letter", "is_letter", defArgs (aQ 18), defBody (aQ 18), defScope (aQ 18), [], []⟩,
 ⟨(("read_order_row", none) : Str × Option Str), "read_order_row", "read_order_row", defArgs (aQ 20), defBody (aQ 20), defScope (aQ 20), [], []⟩,
 ⟨(("read_report", none) : Str × Option Str), "read_report", "read_report", defArgs (aQ 21), defBody (aQ 21), defScope (aQ 21), [], []⟩,
 ⟨(("_law_fault", none) : Str × Option Str), "_law_fault", "_law_fault", defArgs (aQ 35), defBody (aQ 35), defScope (aQ 35), [], []⟩,
 ⟨(("_law_spoilt", none) : Str × Option Str), "_law_spoilt", "_law_spoilt", defArgs (aQ 36), defBody (aQ 36), defScope (aQ 36), [], []⟩,
 ⟨(("law", none) : Str × Option Str), "law", "law", defArgs (aQ 37), defBody (aQ 37), defScope (aQ 37), [], []⟩]
def hFn : List He.DefD := CS
def CO : List He.Fa := [
 .glo "law",
 .glo "LineError",
 .exm "LineError" "ClearfloorError" true,
 .free "any",
 .free "bool",
 .free "enumerate",
 .free "int",
 .free "isinstance",
 .free "len",
 .free "range",
 .free "str",
 .str "FIGURES" "0123456789",
 .int "MOST_FIGURES" 6,
 .str "STATIONS" "ABCDEFGH",
 .glo "ClearfloorError",
 .noat "LineError" "line",
 .free "super",
 .glo "_law_cell",
 .glo "_law_digits",
 .glo "_law_draw",
 .glo "_law_place",
 .glo "_law_number",
 .glo "_law_robot",
 .glo "_law_order",
 .glo "_law_told",
 .glo "_law_place_word",
 .glo "_law_robot_line",
 .glo "_law_order_line",
 .glo "_law_lines",
 .glo "write_place"]
def BM : List He.Fa := [
 .glo "write_robot",
 .glo "write_order",
 .glo "write_report",
 .glo "read_number",
 .glo "read_place",
 .glo "read_share",
 .glo "read_way",
 .glo "read_errand",
 .glo "read_robot",
 .glo "read_order_state",
 .glo "is_letter",
 .glo "read_order_row",
 .glo "read_report",
 .glo "_law_fault",
 .glo "_law_spoilt"]
def hFa : List He.Fa := CO ++ (BM)
def hTs : List He.Tab := []
def hTf : List He.Defn := [(("read_number", none) : Str × Option Str)]
def hEs : List eF := [⟨("LineError", some "__init__"), "LineError.__init__", (inClass (aQ 2) 0), []⟩]
def hEx (K : PySem.W.Frag) : Bool := PySem.W.noTabs K && (yi (PySem.W.OpenLaw.row PySem.Challenge.rw_clearfloor_k25_lines_of_a_report).prog K ⟨("LineError", some "__init__"), "LineError.__init__", (inClass (aQ 2) 0), []⟩ && (He.eqO (PySem.W.nsIn K cStatics "thirdparty.any") (some none) && (xfB K (He.ga K "LineError") && (wh K (He.ga K "LineError") && (decide (PySem.W.kitOne K (.ref (He.ga K "LineError")) (.ref (He.ga K "LineError")) = some true))))))
def Dd : List Str := [("__name__" : Str), ("ClearfloorError" : Str), ("LineError" : Str), ("FIGURES" : Str), ("MOST_FIGURES" : Str), ("read_number" : Str), ("STATIONS" : Str), ("write_place" : Str), ("write_robot" : Str), ("write_order" : Str), ("write_report" : Str), ("read_place" : Str), ("read_share" : Str), ("read_way" : Str), ("read_errand" : Str), ("read_robot" : Str), ("is_letter" : Str), ("read_order_state" : Str), ("read_order_row" : Str), ("read_report" : Str), ("_law_cell" : Str), ("_law_digits" : Str), ("_law_draw" : Str), ("_law_place" : Str), ("_law_number" : Str), ("_law_robot" : Str), ("_law_order" : Str), ("_law_told" : Str), ("_law_place_word" : Str), ("_law_robot_line" : Str)]
def CW : List Str := [("_law_order_line" : Str), ("_law_lines" : Str), ("_law_fault" : Str), ("_law_spoilt" : Str)]
def hNm : List Str := Dd ++ (CW)
def hAs : List Addr := List.range 1400
abbrev hR : PySem.W.OpenRow := PySem.W.OpenLaw.row PySem.Challenge.rw_clearfloor_k25_lines_of_a_report
abbrev hQ : Program := PySem.W.view hR.prog [37]
theorem Ae (w : World) : Q.rD hR hQ 20000 hNm (w.withFollow "special-get-raises" false) := by
 intro os
 kernel_rfl
theorem yT (w : World) : Q.rD hR hQ 20000 hNm (w.withFollow "special-get-raises" true) := by
 intro os
 kernel_rfl
theorem yD (w : World) : Q.rZ hR 20000 hAs hFa hFn (w.withFollow "special-get-raises" false) := by
 intro os
 kernel_rfl
theorem zM (w : World) : Q.rZ hR 20000 hAs hFa hFn (w.withFollow "special-get-raises" true) := by
 intro os
 kernel_rfl
theorem zk (w : World) : Q.r0 hR 20000 hAs hFn (w.withFollow "special-get-raises" false) := by
 intro os
 kernel_rfl
theorem yC (w : World) : Q.r0 hR 20000 hAs hFn (w.withFollow "special-get-raises" true) := by
 intro os
 kernel_rfl
theorem yQ (w : World) : Q.sf hR 20000 hAs hTs hTf hEs hEx (w.withFollow "special-get-raises" false) := by
 intro os
 kernel_rfl
theorem zW (w : World) : Q.sf hR 20000 hAs hTs hTf hEs hEx (w.withFollow "special-get-raises" true) := by
 intro os
 kernel_rfl
theorem De (w : World) : HandSHeadRun.RunEq hR hQ (nM hAs hFa hFn hTs hTf hEs hEx) (fun s => mw hAs hFa hFn hTs hTf hEs hEx (HandSHeadRun.getT s)) 20000 hNm w :=
 PySem.W.byRow2 "special-get-raises" (P := fun w => HandSHeadRun.RunEq hR hQ (nM hAs hFa hFn hTs hTf hEs hEx) (fun s => mw hAs hFa hFn hTs hTf hEs hEx (HandSHeadRun.getT s)) 20000 hNm w) (fun w => sG (Ae w) (yD w) (zk w) (yQ w)) (fun w => sG (yT w) (zM w) (yC w) (zW w)) w
end Law
namespace Q
open PySem L2
inductive D where
 | non | bl (b : Bool) | int (i : Int) | str (s : Str)
 | lst (xs : List D) | tup (xs : List D) | scr (xs : List D)
 | dic (ks : List Key) (xs : List D)
 | obj (c : String) (ks : List Str) (xs : List D)
 | typ (n : String)
 | dcn (ks : List (List Int)) (xs : List D)
 | adr (a : Nat)
def Bw (k : List Int) : Int := reduceHash (Builtin.Tuple.tupleHashOf (k.map hashInt))
def Dw (k : List Int) (b : Addr) (u : Value) : DictEntry := ⟨Bw k, .ref b, u⟩
def mY : List (List Int) → List Addr → List Value → List DictEntry
 | k :: ks, b :: bs, u :: us => Dw k b u :: mY ks bs us
 | _, _, _ => []
structure Raw (a : Addr) (es : List DictEntry) (h : Heap) : Prop where
 ob : ∃ o ep, h.get? a = some o ∧ o.ExactDict ∧ o.data = .dict es.toArray ep
 sm : (a == sysModules) = false
 sz : es.length ≤ sizeLine
def Ce : V → Option Int
 | .int i => some i
 | .bl b => some (if b = true then 1 else 0)
 | _ => none
def mV (K : PySem.W.Frag) (I : Hp) (k : List Int) (b : Addr) : Prop := ∃ vs, SqT K I b vs ∧ vs.map Ce = k.map some
inductive dg (K : PySem.W.Frag) (I : Hp) : List (List Int) → List Addr → Prop
 | nil : dg K I [] []
 | cons {k ks b bs} : mV K I k b → dg K I ks bs → dg K I (k :: ks) (b :: bs)
theorem pw {K : PySem.W.Frag} {I I' : Hp} {a : Addr} {vs : List V} (s : Same I I') (h : SqT K I a vs) : SqT K I' a vs := by
 rcases h with (h | ⟨o, h⟩) | h
 ·exact .inl (.inl (s _ _ h))
 ·exact .inl (.inr ⟨o, s _ _ h⟩)
 ·exact .inr h
theorem dg.mono {K : PySem.W.Frag} {I I' : Hp} (s : Same I I') : ∀ {ks : List (List Int)} {bs : List Addr}, dg K I ks bs → dg K I' ks bs
 | _, _, .nil => .nil
 | _, _, .cons ⟨vs, h, e⟩ t => .cons ⟨vs, pw s h, e⟩ (dg.mono s t)
theorem dg.length {K : PySem.W.Frag} {I : Hp} : ∀ {ks : List (List Int)} {bs : List Addr}, dg K I ks bs → ks.length = bs.length
 | _, _, .nil => rfl
 | _, _, .cons _ t => by simp [dg.length t]
mutual
inductive Rep (K : PySem.W.Frag) (cl : String → Option Addr) (I : Hp) : D → V → Prop
 | non : Rep K cl I .non .non
 | bl {b} : Rep K cl I (.bl b) (.bl b)
 | int {i} : Rep K cl I (.int i) (.int i)
 | str {s} : Rep K cl I (.str s) (.str s)
 | typ {n} : Rep K cl I (.typ n) (.ty n)
 | adr {a : Addr} : Rep K cl I (.adr a) (.ref a)
 | scr {a xs vs} : SqL K I a vs → aI K cl I xs vs → Rep K cl I (.scr xs) (.ref a)
 | tup {a xs vs} : SqT K I a vs → aI K cl I xs vs → Rep K cl I (.tup xs) (.ref a)
 | obj {d a o} : I a = some o → bu K cl I d o → Rep K cl I d (.ref a)
 | fz {ks xs a od o} : I a = some (.frz od o) → bu K cl I (.dic ks xs) o → Rep K cl I (.dic ks xs) (.ref a)
inductive aI (K : PySem.W.Frag) (cl : String → Option Addr) (I : Hp) : List D → List V → Prop
 | nil : aI K cl I [] []
 | cons {d v ds vs} : Rep K cl I d v → aI K cl I ds vs → aI K cl I (d :: ds) (v :: vs)
inductive bu (K : PySem.W.Frag) (cl : String → Option Addr) (I : Hp) : D → HO → Prop
 | lst {xs vs} : aI K cl I xs vs → bu K cl I (.lst xs) (.lst vs)
 | dic {ks xs vs} : aI K cl I xs vs → ks.length = xs.length → bu K cl I (.dic ks xs) (.dK (ks.zip vs))
 | obj {c C dx ks xs vs} : cl c = some C → aI K cl I xs vs → ks.length = xs.length → bu K cl I (.obj c ks xs) (.ins C dx (ks.zip vs))
 | dcn {a ks xs vs bs us} : dg K I ks bs → aI K cl I xs vs → Vals vs us → ks.length = xs.length → ks.Nodup → bu K cl I (.dcn ks xs) (.ext (Raw a (mY ks bs us)))
end
section
variable {K : PySem.W.Frag} {cl : String → Option Addr} {I I' : Hp}
mutual
theorem Rep.mono (s : Same I I') : ∀ {d : D} {v : V}, Rep K cl I d v → Rep K cl I' d v
 | _, _, .non => .non
 | _, _, .bl => .bl
 | _, _, .int => .int
 | _, _, .str => .str
 | _, _, .typ => .typ
 | _, _, .adr => .adr
 | _, _, .scr h r => .scr (s.seq h) (aI.mono s r)
 | _, _, .tup h r => .tup (by
   rcases h with (h | ⟨o, h⟩) | h
   ·exact .inl (.inl (s _ _ h))
   ·exact .inl (.inr ⟨o, s _ _ h⟩)
   ·exact .inr h) (aI.mono s r)
 | _, _, .obj h r => .obj (s _ _ h) (bu.mono s r)
 | _, _, .fz h r => .fz (s _ _ h) (bu.mono s r)
theorem aI.mono (s : Same I I') : ∀ {ds : List D} {vs : List V}, aI K cl I ds vs → aI K cl I' ds vs
 | _, _, .nil => .nil
 | _, _, .cons r t => .cons (Rep.mono s r) (aI.mono s t)
theorem bu.mono (s : Same I I') : ∀ {d : D} {o : HO}, bu K cl I d o → bu K cl I' d o
 | _, _, .lst r => .lst (aI.mono s r)
 | _, _, .dic r e => .dic (aI.mono s r) e
 | _, _, .obj c r e => .obj c (aI.mono s r) e
 | _, _, .dcn h r v e n => .dcn (h.mono s) (aI.mono s r) v e n
end
theorem aI.length : ∀ {ds : List D} {vs : List V}, aI K cl I ds vs → ds.length = vs.length
 | _, _, .nil => rfl
 | _, _, .cons _ t => by simp [aI.length t]
theorem aI.get : ∀ {ds : List D} {vs : List V} {i : Nat} {d : D}, aI K cl I ds vs → ds[i]? = some d → ∃ v, vs[i]? = some v ∧ Rep K cl I d v
 | _, _, i, _, .nil, e => by simp at e
 | _, _, 0, _, .cons r _, e => by simp at e; subst e; exact ⟨_, rfl, r⟩
 | _, _, i + 1, d, .cons _ t, e => by
  obtain ⟨v, h1, h2⟩ := aI.get (i := i) (d := d) t (by simpa using e)
  exact ⟨v, by simpa using h1, h2⟩
theorem aI.append : ∀ {ds es : List D} {vs us : List V}, aI K cl I ds vs → aI K cl I es us → aI K cl I (ds ++ es) (vs ++ us)
 | _, _, _, _, .nil, s => s
 | _, _, _, _, .cons r t, s => .cons r (aI.append t s)
theorem aI.set : ∀ {ds : List D} {vs : List V} (i : Nat) {d : D} {v : V}, Rep K cl I d v → aI K cl I ds vs → aI K cl I (ds.set i d) (vs.set i v)
 | _, _, i, _, _, _, .nil => by cases i <;> exact .nil
 | _, _, 0, _, _, r, .cons _ t => .cons r t
 | _, _, i + 1, _, _, r, .cons q t => .cons q (aI.set i r t)
theorem Rep.int_inv {i : Int} {v : V} (h : Rep K cl I (.int i) v) : v = .int i := by
 cases h with
 | int => rfl
 | obj _ q => cases q
theorem Rep.bl_inv {i : Bool} {v : V} (h : Rep K cl I (.bl i) v) : v = .bl i := by
 cases h with
 | bl => rfl
 | obj _ q => cases q
theorem Rep.str_inv {i : Str} {v : V} (h : Rep K cl I (.str i) v) : v = .str i := by
 cases h with
 | str => rfl
 | obj _ q => cases q
theorem Rep.non_inv {v : V} (h : Rep K cl I .non v) : v = .non := by
 cases h with
 | non => rfl
 | obj _ q => cases q
theorem Rep.typ_inv {n : String} {v : V} (h : Rep K cl I (.typ n) v) : v = .ty n := by
 cases h with
 | typ => rfl
 | obj _ q => cases q
theorem Rep.lst_inv {xs : List D} {v : V} (h : Rep K cl I (.lst xs) v) : ∃ a vs, v = .ref a ∧ I a = some (.lst vs) ∧ aI K cl I xs vs := by
 cases h with
 | obj h q =>
  cases q with
  | lst r => exact ⟨_, _, rfl, h, r⟩
theorem Rep.scr_inv {xs : List D} {v : V} (h : Rep K cl I (.scr xs) v) : ∃ a vs, v = .ref a ∧ SqL K I a vs ∧ aI K cl I xs vs := by
 cases h with
 | scr h r => exact ⟨_, _, rfl, h, r⟩
 | obj h q => cases q
theorem bu.lst_inv {xs : List D} {o : HO} (h : bu K cl I (.lst xs) o) : ∃ vs, o = .lst vs ∧ aI K cl I xs vs := by
 cases h with
 | lst r => exact ⟨_, rfl, r⟩
theorem bu.dic_inv {ks xs} {o : HO} (h : bu K cl I (.dic ks xs) o) : ∃ vs, o = .dK (ks.zip vs) ∧ aI K cl I xs vs ∧ ks.length = xs.length := by
 cases h with
 | dic r e => exact ⟨_, rfl, r, e⟩
theorem bu.ob_inv {c ks xs} {o : HO} (h : bu K cl I (.obj c ks xs) o) : ∃ C dx vs, o = .ins C dx (ks.zip vs) ∧ cl c = some C ∧ aI K cl I xs vs ∧ ks.length = xs.length := by
 cases h with
 | obj c r e => exact ⟨_, _, _, rfl, c, r, e⟩
theorem bu.dcn_inv {ks xs} {o : HO} (h : bu K cl I (.dcn ks xs) o) : ∃ a vs bs us, o = .ext (Raw a (mY ks bs us)) ∧ dg K I ks bs ∧ aI K cl I xs vs ∧ Vals vs us ∧ ks.length = xs.length ∧ ks.Nodup := by
 cases h with
 | dcn h r v e n => exact ⟨_, _, _, _, rfl, h, r, v, e, n⟩
theorem Rep.dcn_inv {ks xs} {v : V} (h : Rep K cl I (.dcn ks xs) v) : ∃ p a vs bs us, v = .ref p ∧ I p = some (.ext (Raw a (mY ks bs us))) ∧ dg K I ks bs ∧ aI K cl I xs vs ∧ Vals vs us ∧ ks.length = xs.length ∧ ks.Nodup := by
 cases h with
 | obj h q =>
  obtain ⟨a, vs, bs, us, rfl, r⟩ := q.dcn_inv
  exact ⟨_, _, _, _, _, rfl, h, r⟩
theorem Rep.tup_inv {xs : List D} {v : V} (h : Rep K cl I (.tup xs) v) : ∃ a vs, v = .ref a ∧ SqT K I a vs ∧ aI K cl I xs vs := by
 cases h with
 | tup h r => exact ⟨_, _, rfl, h, r⟩
 | obj h q => cases q
theorem Rep.dic_inv {ks xs} {v : V} (h : Rep K cl I (.dic ks xs) v) : ∃ a vs, v = .ref a ∧ Rd I a (.dK (ks.zip vs)) ∧ aI K cl I xs vs ∧ ks.length = xs.length := by
 cases h with
 | obj h q =>
  cases q with
  | dic r e => exact ⟨_, _, rfl, .inl h, r, e⟩
 | fz h q =>
  cases q with
  | dic r e => exact ⟨_, _, rfl, .inr ⟨_, h⟩, r, e⟩
theorem Rep.ob_inv {c ks xs} {v : V} (h : Rep K cl I (.obj c ks xs) v) : ∃ a C dx vs, v = .ref a ∧ I a = some (.ins C dx (ks.zip vs)) ∧ cl c = some C ∧ aI K cl I xs vs ∧ ks.length = xs.length := by
 cases h with
 | obj h q =>
  cases q with
  | obj c r e => exact ⟨_, _, _, _, rfl, h, c, r, e⟩
end
def kD (x : String) : String := x ++ "#"
def a9 (cl : String → Option Addr) (a : Addr) : Prop := ∃ x, cl (kD x) = some a
inductive Sl where
 | un | imm (d : D) | bor (d : D) | own (d : D) | lck (d : D) | io (k : Nat) (d : D)
abbrev En := List Sl
structure G where
 I0 : Hp
 H0 : Hp
 O : List Addr
 X : List (Addr × HO) := []
def Top (K : PySem.W.Frag) (cl : String → Option Addr) (I H : Hp) (d : D) (a : Addr) : Prop := ∃ o, H a = some o ∧ bu K cl I d o
def ly (K : PySem.W.Frag) (cl : String → Option Addr) (g : G) (I H : Hp) : Sl → Option V → Prop
 | .un, _ => True
 | .imm d, x => ∃ v, x = some v ∧ Rep K cl I d v
 | .bor d, x => ∃ a, x = some (.ref a) ∧ Top K cl I H d a
 | .own d, x => ∃ a o, x = some (.ref a) ∧ H a = some o ∧ bu K cl I d o ∧ I a = none ∧ g.H0 a = none
 | .lck d, x => ∃ a o, x = some (.ref a) ∧ H a = some o ∧ bu K cl I d o ∧ I a = none ∧ g.H0 a = none
 | .io k d, x => ∃ a o, x = some (.ref a) ∧ g.O[k]? = some a ∧ H a = some o ∧ bu K cl I d o
def Sl.mut : Sl → Bool
 | .own _ => true
 | .lck _ => true
 | .io _ _ => true
 | _ => false
def Sl.top : Sl → Bool
 | .own _ => true
 | .lck _ => true
 | .io _ _ => true
 | .bor _ => true
 | _ => false
structure SR (K : PySem.W.Frag) (cl : String → Option Addr) (g : G) (env : En) (σ : St) (I H : Hp) : Prop where
 sub : Same I H
 i0 : Same g.I0 I
 h0 : ∀ a o, g.H0 a = some o → a ∉ g.O → ¬ a9 cl a → H a = some o
 hi : ∀ a o, g.H0 a = some o → g.I0 a = none → I a = none
 oh : ∀ a ∈ g.O, (∃ o, H a = some o) ∧ I a = none ∧ ∃ o, g.H0 a = some o
 len : env.length = σ.length
 at_ : ∀ (i : Nat) (s : Sl), env[i]? = some s → ∃ x : Option V, σ[i]? = some x ∧ ly K cl g I H s x
 dis : ∀ (i j : Nat) (s s' : Sl) (a : Addr), i ≠ j → env[i]? = some s → env[j]? = some s' → s.mut = true → s'.top = true → σ[i]? = some (some (.ref a)) → σ[j]? = some (some (.ref a)) → False
 ex : ∀ (a : Addr) (o : HO), (a, o) ∈ g.X → H a = some o ∧ I a = none ∧ ∀ (i : Nat) (s : Sl), env[i]? = some s → s.top = true → σ[i]? ≠ some (some (.ref a))
 ex0 : ∀ (a : Addr) (o : HO), (a, o) ∈ g.X → g.H0 a = none
 tb : ∀ a, a9 cl a → I a = none ∧ GxR.TabG H a ∧ ∃ o, g.H0 a = some o
section
variable {K : PySem.W.Frag} {cl : String → Option Addr} {g : G} {env : En} {σ : St} {I I' H H' : Hp}
structure New (g : G) (env : En) (σ : St) (I H : Hp) (p : Addr) (o : HO) : Prop where
 at_ : H p = some o
 i : I p = none
 h0 : g.H0 p = none
 no : ∀ (i : Nat) (s : Sl), env[i]? = some s → s.top = true → σ[i]? ≠ some (some (.ref p))
 x : ∀ o', (p, o') ∉ g.X
theorem SR.fresh0 (R : SR K cl g env σ I H) {p : Addr} (hp : H p = none) : g.H0 p = none := by
 cases e : g.H0 p with
 | none => rfl
 | some o =>
  by_cases hO : p ∈ g.O
  ·obtain ⟨⟨o', h⟩, _⟩ := R.oh p hO
   rw [hp] at h; cases h
  ·by_cases ht : a9 cl p
   ·obtain ⟨_, ⟨ps, h, _⟩, _⟩ := R.tb p ht
    rw [hp] at h; cases h
   ·rw [R.h0 p o e hO ht] at hp; cases hp
theorem bu.notTab {d : D} {o : HO} (r : bu K cl I d o) {ps : Array Value} (h : o = .tbl ps) : False := by
 subst h; cases r
theorem SR.noTab (R : SR K cl g env σ I H) {a : Addr} {d : D} {o : HO} (h : H a = some o) (r : bu K cl I' d o) : ¬ a9 cl a := fun t => by
 obtain ⟨_, ⟨ps, h1, _⟩, _⟩ := R.tb a t
 rw [h] at h1
 exact r.notTab (Option.some.inj h1)
theorem Top.mono {d : D} {a : Addr} (t : Top K cl I H d a) (s : Same I I') (s' : ∀ o, H a = some o → H' a = some o) : Top K cl I' H' d a := by
 obtain ⟨o, h, r⟩ := t
 exact ⟨o, s' _ h, r.mono s⟩
theorem Top.there {d : D} {a : Addr} (t : Top K cl I H d a) : ∃ o, H a = some o := let ⟨o, h, _⟩ := t; ⟨o, h⟩
theorem SR.grow (R : SR K cl g env σ I H) (s : Same H H') : SR K cl g env σ I H' where
 sub := R.sub.trans s
 i0 := R.i0
 h0 := fun a o h n t => s _ _ (R.h0 a o h n t)
 hi := R.hi
 oh := fun a h => let ⟨⟨o, h1⟩, h2⟩ := R.oh a h; ⟨⟨o, s _ _ h1⟩, h2⟩
 len := R.len
 at_ := fun i sl h => by
  obtain ⟨x, hx, q⟩ := R.at_ i sl h
  refine ⟨x, hx, ?_⟩
  cases sl with
  | un => trivial
  | imm d => exact q
  | bor d => obtain ⟨a, e, t⟩ := q; exact ⟨a, e, t.mono (Same.refl _) fun o => s _ o⟩
  | own d => obtain ⟨a, o, e, h1, h2⟩ := q; exact ⟨a, o, e, s _ _ h1, h2⟩
  | lck d => obtain ⟨a, o, e, h1, h2⟩ := q; exact ⟨a, o, e, s _ _ h1, h2⟩
  | io k d => obtain ⟨a, o, e, h0, h1, h2⟩ := q; exact ⟨a, o, e, h0, s _ _ h1, h2⟩
 dis := R.dis
 ex := fun a o h => let ⟨h1, h2, h3⟩ := R.ex a o h; ⟨s _ _ h1, h2, h3⟩
 ex0 := R.ex0
 tb := fun a h => let ⟨h1, ⟨ps, h2, h3⟩, h4⟩ := R.tb a h; ⟨h1, ⟨ps, s _ _ h2, h3⟩, h4⟩
theorem Same.new {H : Hp} {p : Addr} {o : HO} (h : H p = none) : Same H (upd H p o) := fun a u e => by
 rw [upd_ne (ne_of_none e h)]; exact e
theorem SR.alloc (R : SR K cl g env σ I H) {p : Addr} (hp : H p = none) (o : HO) : SR K cl g env σ I (upd H p o) := R.grow (Same.new hp)
theorem SR.slot_ne (R : SR K cl g env σ I H) {p : Addr} (hp : H p = none) : ∀ (i : Nat) (s : Sl), env[i]? = some s → s.top = true → σ[i]? ≠ some (some (.ref p)) := fun i s h ht e => by
 obtain ⟨x, hx, q⟩ := R.at_ i s h
 rw [hx] at e
 cases e
 cases s with
 | un => cases ht
 | imm d => cases ht
 | bor d => obtain ⟨a, e, t⟩ := q; cases e; obtain ⟨o, h1⟩ := t.there; rw [hp] at h1; cases h1
 | own d => obtain ⟨a, o, e, h1, _⟩ := q; cases e; rw [hp] at h1; cases h1
 | lck d => obtain ⟨a, o, e, h1, _⟩ := q; cases e; rw [hp] at h1; cases h1
 | io k d => obtain ⟨a, o, e, _, h1, _⟩ := q; cases e; rw [hp] at h1; cases h1
theorem SR.new (R : SR K cl g env σ I H) {p : Addr} {o : HO} (hp : H p = none) : New g env σ I (upd H p o) p o := by
 refine ⟨upd_same, ?_, R.fresh0 hp, R.slot_ne hp, fun o' hx => by have := (R.ex p o' hx).1; rw [hp] at this; cases this⟩
 cases e : I p with
 | none => rfl
 | some u =>
  have q := R.sub p u e
  rw [q] at hp; cases hp
end
end Q
namespace Q
open PySem L2
section
variable {K : PySem.W.Frag} {cl : String → Option Addr} {g : G} {env : En} {σ : St} {I I' H H' : Hp}
theorem bW {α : Type} {l : List α} {i j : Nat} {x y : α} (h : (l.set i x)[j]? = some y) : (j = i ∧ i < l.length ∧ y = x) ∨ (j ≠ i ∧ l[j]? = some y) := by
 by_cases e : j = i
 ·subst e
  obtain ⟨h1, h2⟩ := List.getElem?_eq_some_iff.mp h
  rw [List.length_set] at h1
  rw [List.getElem_set_self] at h2
  exact .inl ⟨rfl, h1, h2.symm⟩
 ·rw [List.getElem?_set_ne (Ne.symm e)] at h
  exact .inr ⟨e, h⟩
theorem SR.reslot (R : SR K cl g env σ I H) {i : Nat} {s s' : Sl} (hs : env[i]? = some s) (h : ∀ x, σ[i]? = some x → ly K cl g I H s x → ly K cl g I H s' x) (hm : s'.mut = true → s.mut = true) (ht : s'.top = true → s.top = true) :
  SR K cl g (env.set i s') σ I H where
 sub := R.sub
 i0 := R.i0
 h0 := R.h0
 hi := R.hi
 oh := R.oh
 len := by rw [List.length_set]; exact R.len
 at_ := fun j u e => by
  rcases bW e with ⟨rfl, _, rfl⟩ | ⟨_, e⟩
  ·obtain ⟨x, hx, q⟩ := R.at_ _ _ hs
   exact ⟨x, hx, h x hx q⟩
  ·exact R.at_ j u e
 dis := fun j k u u' a hne e1 e2 h1 h2 => by
  rcases bW e1 with ⟨rfl, _, rfl⟩ | ⟨n1, f1⟩
  ·rcases bW e2 with ⟨e, _, _⟩ | ⟨n2, e2⟩
   ·exact absurd e.symm hne
   ·exact R.dis _ k s u' a hne hs e2 (hm h1) h2
  ·rcases bW e2 with ⟨rfl, _, rfl⟩ | ⟨n2, f2⟩
   ·exact R.dis j _ u s a hne f1 hs h1 (ht h2)
   ·exact R.dis j k u u' a hne f1 f2 h1 h2
 ex := fun a o hx => by
  obtain ⟨h1, h2, h3⟩ := R.ex a o hx
  refine ⟨h1, h2, fun j u e hu => ?_⟩
  rcases bW e with ⟨rfl, _, rfl⟩ | ⟨_, e⟩
  ·exact h3 _ s hs (ht hu)
  ·exact h3 j u e hu
 ex0 := R.ex0
 tb := R.tb
theorem SR.store (R : SR K cl g env σ I H) {i : Nat} {s' : Sl} {x : Option V} (h : i < σ.length) (hs : ly K cl g I H s' x)
  (hd : ∀ (a : Addr), x = some (.ref a) → s'.top = true → (∀ o, (a, o) ∉ g.X) ∧ ∀ (j : Nat) (s : Sl), j ≠ i → env[j]? = some s → s.top = true → σ[j]? ≠ some (some (.ref a))) :
  SR K cl g (env.set i s') (σ.set i x) I H where
 sub := R.sub
 i0 := R.i0
 h0 := R.h0
 hi := R.hi
 oh := R.oh
 len := by rw [List.length_set, List.length_set]; exact R.len
 at_ := fun j u e => by
  rcases bW e with ⟨rfl, _, rfl⟩ | ⟨n, e⟩
  ·exact ⟨x, List.getElem?_set_self h, hs⟩
  ·rw [List.getElem?_set_ne (Ne.symm n)]
   exact R.at_ j u e
 dis := fun j k u u' a hne e1 e2 h1 h2 q1 q2 => by
  have tm : ∀ s : Sl, s.mut = true → s.top = true := fun s h => by cases s <;> first | rfl | cases h
  rcases bW e1 with ⟨rfl, _, rfl⟩ | ⟨n1, f1⟩
  ·rw [List.getElem?_set_self h] at q1
   rcases bW e2 with ⟨e, _, _⟩ | ⟨n2, f2⟩
   ·exact absurd e.symm hne
   ·rw [List.getElem?_set_ne (Ne.symm n2)] at q2
    exact (hd a (Option.some.inj q1) (tm _ h1)).2 k u' n2 f2 h2 q2
  ·rw [List.getElem?_set_ne (Ne.symm n1)] at q1
   rcases bW e2 with ⟨rfl, _, rfl⟩ | ⟨n2, f2⟩
   ·rw [List.getElem?_set_self h] at q2
    exact (hd a (Option.some.inj q2) h2).2 j u n1 f1 (tm _ h1) q1
   ·rw [List.getElem?_set_ne (Ne.symm n2)] at q2
    exact R.dis j k u u' a hne f1 f2 h1 h2 q1 q2
 ex := fun a o hx => by
  obtain ⟨h1, h2, h3⟩ := R.ex a o hx
  refine ⟨h1, h2, fun j u e hu => ?_⟩
  rcases bW e with ⟨rfl, _, rfl⟩ | ⟨n, e⟩
  ·rw [List.getElem?_set_self h]
   intro z
   exact (hd a (Option.some.inj z) hu).1 o hx
  ·rw [List.getElem?_set_ne (Ne.symm n)]
   exact h3 j u e hu
 ex0 := R.ex0
 tb := R.tb
theorem SR.setImm (R : SR K cl g env σ I H) {i : Nat} {d : D} {v : V} (h : i < σ.length) (r : Rep K cl I d v) : SR K cl g (env.set i (.imm d)) (σ.set i (some v)) I H :=
 R.store h ⟨v, rfl, r⟩ fun _ _ ht => by cases ht
theorem SR.setUn (R : SR K cl g env σ I H) {i : Nat} {x : Option V} (h : i < σ.length) : SR K cl g (env.set i .un) (σ.set i x) I H :=
 R.store h trivial fun _ _ ht => by cases ht
theorem SR.setOwn (R : SR K cl g env σ I H) {i : Nat} {d : D} {p : Addr} {o : HO} (h : i < σ.length) (n : New g env σ I H p o) (r : bu K cl I d o) : SR K cl g (env.set i (.own d)) (σ.set i (some (.ref p))) I H :=
 R.store h ⟨p, o, rfl, n.at_, r, n.i, n.h0⟩ fun a e _ => by
  cases e
  exact ⟨n.x, fun j s _ hj ht => n.no j s hj ht⟩
theorem SR.freeze (R : SR K cl g env σ I H) {p : Addr} {o : HO} (n : New g env σ I H p o) : SR K cl g env σ (upd I p o) H ∧ Same I (upd I p o) := by
 have s : Same I (upd I p o) := Same.new n.i
 have np : ∀ (i : Nat) (sl : Sl) (a : Addr), env[i]? = some sl → sl.top = true → σ[i]? = some (some (.ref a)) → a ≠ p := fun i sl a h1 h2 h3 e => by
  subst e
  exact n.no i sl h1 h2 h3
 refine ⟨⟨fun a u e => ?_, R.i0.trans s, R.h0, fun a u e1 e2 => ?_, fun a ha => ?_, R.len, fun i sl h => ?_, R.dis, fun a u hx => ?_, R.ex0, fun a ht => ?_⟩, s⟩
 rotate_right
 ·obtain ⟨h1, h2, u, h3⟩ := R.tb a ht
  have h : a ≠ p := fun z => by subst z; rw [n.h0] at h3; cases h3
  rw [upd_ne h]; exact ⟨h1, h2, u, h3⟩
 rotate_right
 ·obtain ⟨h1, h2, h3⟩ := R.ex a u hx
  refine ⟨h1, ?_, h3⟩
  rw [upd_ne (fun z => by subst z; exact n.x u hx)]
  exact h2
 ·by_cases h : a = p
  ·subst h; rw [upd_same] at e; cases e; exact n.at_
  ·rw [upd_ne h] at e; exact R.sub a u e
 ·have h : a ≠ p := fun z => by subst z; rw [n.h0] at e1; cases e1
  rw [upd_ne h]; exact R.hi a u e1 e2
 ·obtain ⟨h1, h2, u, h3⟩ := R.oh a ha
  have h : a ≠ p := fun z => by subst z; rw [n.h0] at h3; cases h3
  rw [upd_ne h]; exact ⟨h1, h2, u, h3⟩
 ·obtain ⟨x, hx, q⟩ := R.at_ i sl h
  refine ⟨x, hx, ?_⟩
  cases sl with
  | un => trivial
  | imm d => obtain ⟨v, e, r⟩ := q; exact ⟨v, e, r.mono s⟩
  | bor d => obtain ⟨a, e, t⟩ := q; exact ⟨a, e, t.mono s fun _ h => h⟩
  | own d =>
   obtain ⟨a, u, e, h1, h2, h3, h4⟩ := q
   subst e
   exact ⟨a, u, rfl, h1, h2.mono s, by rw [upd_ne (np i _ a h rfl hx)]; exact h3, h4⟩
  | lck d =>
   obtain ⟨a, u, e, h1, h2, h3, h4⟩ := q
   subst e
   exact ⟨a, u, rfl, h1, h2.mono s, by rw [upd_ne (np i _ a h rfl hx)]; exact h3, h4⟩
  | io k d => obtain ⟨a, u, e, h0, h1, h2⟩ := q; exact ⟨a, u, e, h0, h1, h2.mono s⟩
theorem SR.frz (R : SR K cl g env σ I H) {i : Nat} {d : D} (hs : env[i]? = some (.own d)) : ∃ a o, σ[i]? = some (some (.ref a)) ∧ SR K cl g (env.set i (.imm d)) σ (upd I a o) H ∧ Same I (upd I a o) ∧ Rep K cl (upd I a o) d (.ref a) := by
 obtain ⟨x, hx, a, o, rfl, h1, h2, h3, h4⟩ := R.at_ i _ hs
 have R1 : SR K cl g (env.set i .un) σ I H := R.reslot (s' := .un) hs (fun _ _ _ => trivial) (fun z => by cases z) (fun z => by cases z)
 have hil : i < env.length := (List.getElem?_eq_some_iff.mp hs).1
 have n : New g (env.set i .un) σ I H a o := ⟨h1, h3, h4, fun j s hj ht => by
  rcases bW hj with ⟨rfl, _, rfl⟩ | ⟨ne, hj⟩
  ·cases ht
  ·exact fun z => R.dis i j _ s a (Ne.symm ne) hs hj rfl ht hx z, fun o' hX => (R.ex a o' hX).2.2 i _ hs rfl hx⟩
 obtain ⟨R2, s2⟩ := R1.freeze n
 have r : Rep K cl (upd I a o) d (.ref a) := .obj upd_same (h2.mono s2)
 refine ⟨a, o, hx, ?_, s2, r⟩
 have R3 := R2.reslot (i := i) (s := .un) (s' := .imm d) (List.getElem?_set_self hil) (fun y hy _ => ⟨.ref a, by rw [hx] at hy; exact (Option.some.inj hy).symm, r⟩) (fun z => by cases z) (fun z => by cases z)
 rw [List.set_set] at R3
 exact R3
def Sl.put : Sl → D → Sl
 | .own _, d => .own d
 | .io k _, d => .io k d
 | s, _ => s
def Sl.own? : Sl → Option D
 | .own d => some d
 | .io _ d => some d
 | _ => none
theorem jw (R : SR K cl g env σ I H) {i : Nat} {s : Sl} {d : D} (hs : env[i]? = some s) (ho : s.own? = some d) :
  ∃ a o, σ[i]? = some (some (.ref a)) ∧ H a = some o ∧ bu K cl I d o ∧ I a = none := by
 obtain ⟨x, hx, q⟩ := R.at_ i s hs
 cases s with
 | own d' =>
  cases ho
  obtain ⟨a, u, rfl, h1, h2, h3, h4⟩ := q
  exact ⟨a, u, hx, h1, h2, h3⟩
 | io k d' =>
  cases ho
  obtain ⟨a, u, rfl, h0, h1, h2⟩ := q
  exact ⟨a, u, hx, h1, h2, (R.oh a (List.mem_of_getElem? h0)).2.1⟩
 | un => cases ho
 | imm => cases ho
 | bor => cases ho
 | lck => cases ho
theorem SR.mutate (R : SR K cl g env σ I H) {i : Nat} {s : Sl} {d d' : D} {a : Addr} {o' : HO} (hs : env[i]? = some s) (ho : s.own? = some d) (ha : σ[i]? = some (some (.ref a))) (r : bu K cl I d' o') :
  SR K cl g (env.set i (s.put d')) σ I (upd H a o') := by
 obtain ⟨a', o, ha', h1, h2, h3⟩ := jw R hs ho
 rw [ha] at ha'
 cases ha'
 have sm : s.mut = true ∧ s.top = true := by cases s <;> first | exact ⟨rfl, rfl⟩ | cases ho
 have pm : (s.put d').mut = true ∧ (s.put d').top = true := by cases s <;> first | exact ⟨rfl, rfl⟩ | cases ho
 have ne : ∀ (j : Nat) (u : Sl) (b : Addr), j ≠ i → env[j]? = some u → u.top = true → σ[j]? = some (some (.ref b)) → b ≠ a := fun j u b hj k1 k2 k3 e => by
  rw [e] at k3
  exact R.dis i j s u a (Ne.symm hj) hs k1 sm.1 k2 ha k3
 have nt : ¬ a9 cl a := R.noTab h1 h2
 have h00 : ∀ b u, g.H0 b = some u → b ∉ g.O → b ≠ a := fun b u e1 e2 z => by
  subst z
  obtain ⟨x, hx, q⟩ := R.at_ i s hs
  cases s with
  | own d' => obtain ⟨a, v, rfl, _, _, _, h4⟩ := q; rw [ha] at hx; cases hx; rw [h4] at e1; cases e1
  | io k d' => obtain ⟨a, v, rfl, h0, _⟩ := q; rw [ha] at hx; cases hx; exact e2 (List.mem_of_getElem? h0)
  | un => cases ho
  | imm => cases ho
  | bor => cases ho
  | lck => cases ho
 refine ⟨fun b u e => ?_, R.i0, fun b u e1 e2 e3 => ?_, R.hi, fun b hb => ?_, by rw [List.length_set]; exact R.len, fun j u e => ?_, fun j k u u' b hne e1 e2 m1 m2 => ?_, fun b u hx => ?_, R.ex0, fun b ht => ?_⟩
 rotate_right
 ·obtain ⟨t1, ⟨ps, t2, t3⟩, t4⟩ := R.tb b ht
  have hb : b ≠ a := fun z => nt (z ▸ ht)
  exact ⟨t1, ⟨ps, by rw [upd_ne hb]; exact t2, t3⟩, t4⟩
 rotate_right
 ·obtain ⟨h1, h2, h3⟩ := R.ex b u hx
  have hb : b ≠ a := fun z => by rw [z] at h3; exact h3 i s hs sm.2 ha
  refine ⟨by rw [upd_ne hb]; exact h1, h2, fun j v e hv => ?_⟩
  rcases bW e with ⟨rfl, _, rfl⟩ | ⟨n, e⟩
  ·exact h3 _ s hs sm.2
  ·exact h3 j v e hv
 ·rw [upd_ne (fun z => by subst z; rw [h3] at e; cases e)]; exact R.sub b u e
 ·rw [upd_ne (h00 b u e1 e2)]; exact R.h0 b u e1 e2 e3
 ·obtain ⟨⟨u, q1⟩, q2⟩ := R.oh b hb
  by_cases z : b = a
  ·subst z; exact ⟨⟨o', upd_same⟩, q2⟩
  ·rw [upd_ne z]; exact ⟨⟨u, q1⟩, q2⟩
 ·rcases bW e with ⟨rfl, _, rfl⟩ | ⟨n, e⟩
  ·obtain ⟨x, hx, q⟩ := R.at_ j s hs
   refine ⟨x, hx, ?_⟩
   cases s with
   | own d' => obtain ⟨b, v, hb, _, _, q3, q4⟩ := q; subst hb; rw [ha] at hx; cases hx; exact ⟨_, o', rfl, upd_same, r, q3, q4⟩
   | io k d' => obtain ⟨b, v, hb, q0, _⟩ := q; subst hb; rw [ha] at hx; cases hx; exact ⟨_, o', rfl, q0, upd_same, r⟩
   | un => cases ho
   | imm => cases ho
   | bor => cases ho
   | lck => cases ho
  ·obtain ⟨x, hx, q⟩ := R.at_ j u e
   refine ⟨x, hx, ?_⟩
   cases u with
   | un => trivial
   | imm d => exact q
   | bor d =>
    obtain ⟨b, rfl, t⟩ := q
    exact ⟨b, rfl, t.mono (Same.refl _) fun v hv => by rw [upd_ne (ne j _ b n e rfl hx)]; exact hv⟩
   | own d => obtain ⟨b, v, rfl, q1, q2⟩ := q; exact ⟨b, v, rfl, by rw [upd_ne (ne j _ b n e rfl hx)]; exact q1, q2⟩
   | lck d => obtain ⟨b, v, rfl, q1, q2⟩ := q; exact ⟨b, v, rfl, by rw [upd_ne (ne j _ b n e rfl hx)]; exact q1, q2⟩
   | io k d => obtain ⟨b, v, rfl, q0, q1, q2⟩ := q; exact ⟨b, v, rfl, q0, by rw [upd_ne (ne j _ b n e rfl hx)]; exact q1, q2⟩
 ·rcases bW e1 with ⟨rfl, _, rfl⟩ | ⟨n1, f1⟩
  ·rcases bW e2 with ⟨e, _, _⟩ | ⟨n2, f2⟩
   ·exact absurd e.symm hne
   ·exact R.dis _ k s u' b hne hs f2 sm.1 m2
  ·rcases bW e2 with ⟨rfl, _, rfl⟩ | ⟨n2, f2⟩
   ·exact R.dis j _ u s b hne f1 hs m1 sm.2
   ·exact R.dis j k u u' b hne f1 f2 m1 m2
end
structure Zc where
 P : Program
 w : World
 K : PySem.W.Frag
 mg : Str → Option Value
 base : Heap
 N : List Str
 sc : Scope
 k : Nat
 cl : String → Option Addr
 all : Bool
 me : Option (Addr × Addr)
structure InF (Z : Zc) (X : Cx) : Prop where
 prog : X.prog = Z.P
 w : X.w = Z.w
 K : X.K = Z.K
 mg : X.mg = Z.mg
 base : X.base = Z.base
 N : X.N = Z.N
 sc : X.env.scope = Z.sc
 calm : X.calm = true
 room : Room Z.k X.A
 nd : X.N.Nodup
 fn : Z.all = true → ∀ x, X.fn x = true
 own : PassesOwn (model X.prog X.w) X.A X.env X.xe
 gd : X.A.guards = some []
 cd : ∀ c P, Z.me = some (c, P) → X.env.code = .ref c ∧ GxR.TabB X.base X.mg c P ∧ a9 Z.cl P
abbrev ME := En → Option (D × En)
abbrev MT := En → Option (Bool × En)
def SE (Z : Zc) (t : TE) (m : ME) : Prop := ∀ (g : G) (env : En) (σ : St) (I H : Hp) (Q : VK) (d : D) (env' : En), SR Z.K Z.cl g env σ I H → m env = some (d, env') →
 (∀ v I' H', SR Z.K Z.cl g env' σ I' H' → Same I I' → Rep Z.K Z.cl I' d v → Q v H') → t σ H Q
def SF (Z : Zc) (t : TE) (m : ME) : Prop := ∀ (g : G) (env : En) (σ : St) (I H : Hp) (Q : VK) (d : D) (env' : En), SR Z.K Z.cl g env σ I H → m env = some (d, env') →
 (∀ p o I' H', SR Z.K Z.cl g env' σ I' H' → Same I I' → New g env' σ I' H' p o → bu Z.K Z.cl I' d o → Q (.ref p) H') → t σ H Q
def ST (Z : Zc) (t : TT) (m : MT) : Prop := ∀ (g : G) (env : En) (σ : St) (I H : Hp) (Q : Bool → Hp → Prop) (b : Bool) (env' : En), SR Z.K Z.cl g env σ I H → m env = some (b, env') →
 (∀ I' H', SR Z.K Z.cl g env' σ I' H' → Same I I' → Q b H') → t σ H Q
def EV (Z : Zc) (e : Expr) (m : ME) : Prop := ∃ t, (∀ X, InF Z X → PE X e t) ∧ SE Z t m
def EF (Z : Zc) (e : Expr) (m : ME) : Prop := ∃ t, (∀ X, InF Z X → PE X e t) ∧ SF Z t m
def TV (Z : Zc) (e : Expr) (m : MT) : Prop := ∃ t, (∀ X, InF Z X → PT X e t) ∧ ST Z t m
theorem SF.se {Z : Zc} {t : TE} {m : ME} (h : SF Z t m) : SE Z t m := fun g env σ I H Q d env' R hm k =>
 h g env σ I H Q d env' R hm fun p o I' H' R' s n r => by
  obtain ⟨R2, s2⟩ := R'.freeze n
  exact k _ _ _ R2 (s.trans s2) (.obj upd_same (r.mono s2))
theorem EF.ev {Z : Zc} {e : Expr} {m : ME} (h : EF Z e m) : EV Z e m := let ⟨t, h1, h2⟩ := h; ⟨t, h1, h2.se⟩
inductive Md where | imm | new
inductive Fl where
 | nx (env : En) | bk (env : En) | ct (env : En) | ret (md : Md) (d : D) (env : En)
abbrev MS := En → Option Fl
def vX (Z : Zc) (g : G) (env : En) (σ : St) (I H : Hp) : Md → D → V → Prop
 | .imm, d, v => Rep Z.K Z.cl I d v
 | .new, d, v => ∃ p o, v = .ref p ∧ New g env σ I H p o ∧ bu Z.K Z.cl I d o
def su (Z : Zc) (g : G) (I : Hp) (D : Ends) : Fl → Prop
 | .nx env => ∀ σ' I' H', SR Z.K Z.cl g env σ' I' H' → Same I I' → D.nx σ' H'
 | .bk env => ∀ σ' I' H', SR Z.K Z.cl g env σ' I' H' → Same I I' → D.bk σ' H'
 | .ct env => ∀ σ' I' H', SR Z.K Z.cl g env σ' I' H' → Same I I' → D.ct σ' H'
 | .ret md d env => ∀ σ' I' H' v, SR Z.K Z.cl g env σ' I' H' → Same I I' → vX Z g env σ' I' H' md d v → D.rt v H'
def SS (Z : Zc) (t : TS) (m : MS) : Prop := ∀ (g : G) (env : En) (σ : St) (I H : Hp) (D : Ends) (fl : Fl), SR Z.K Z.cl g env σ I H → m env = some fl → su Z g I D fl → t D σ H
def SV (Z : Zc) (st : Stmt) (m : MS) : Prop := ∃ t, (∀ X, InF Z X → PS X st t) ∧ SS Z t m
def BV (Z : Zc) (sts : List Stmt) (m : MS) : Prop := ∃ t, (∀ X, InF Z X → PSs X sts t) ∧ SS Z t m
theorem su.mono {Z : Zc} {g : G} {I I' : Hp} {D : Ends} {fl : Fl} (s : Same I I') (h : su Z g I D fl) : su Z g I' D fl := by
 cases fl with
 | nx env => exact fun σ' J H' R e => h σ' J H' R (s.trans e)
 | bk env => exact fun σ' J H' R e => h σ' J H' R (s.trans e)
 | ct env => exact fun σ' J H' R e => h σ' J H' R (s.trans e)
 | ret md d env => exact fun σ' J H' v R e => h σ' J H' v R (s.trans e)
end Q
namespace Q
open PySem PySem.Spec PyProof.Rows L2
abbrev cR (A : Around) : Prop := A.guards = some []
structure FnG (P : Program) (w : World) (K : PySem.W.Frag) (mg : Str → Option Value) (base : Heap) (CX : CXT) (k : Nat) (f : Addr) (fd : FuncData) (ps : List Str) (sp : Sp) : Prop where
 ar : ∀ {vs H Q E}, sp vs H Q E → vs.length = ps.length
 go : ∀ {A : Around} {outer : List Env} {s : Shared} {H : Hp} {args : Args} {us : List Value} {vs : List V} {Q : VK} {E : XK}, Room k A → cR A →
  Env0 P w K mg base A outer s H → BindsTo s fd args (ps.zip us) → Vals vs us → sp vs H Q E → codeAny (model P w) A (.call (.ref f) args) (CR CX outer P w H s Q E) s
section
variable {P : Program} {w : World} {K : PySem.W.Frag} {mg : Str → Option Value} {base : Heap} {CX : CXT} {j k : Nat} {f : Addr} {fd : FuncData} {ps : List Str} {sp sp' : Sp}
theorem FnG.mono (F : FnG P w K mg base CX j f fd ps sp) (h : j ≤ k) : FnG P w K mg base CX k f fd ps sp := ⟨F.ar, fun hr => F.go (hr.mono h)⟩
theorem FnG.imp (F : FnG P w K mg base CX k f fd ps sp) (h : ∀ vs H Q E, sp' vs H Q E → sp vs H Q E) : FnG P w K mg base CX k f fd ps sp' :=
 ⟨fun q => F.ar (h _ _ _ _ q), fun a1 a2 a3 a4 a5 a6 => F.go a1 a2 a3 a4 a5 (h _ _ _ _ a6)⟩
end
section
variable {X : Cx} {CX : CXT} {k : Nat} {f C : Addr} {fd : FuncData} {ps : List Str} {sp : Sp} {E : XK} {x m : Str} {p pos apos : Pos} {e o : Expr} {es : List Expr} {ta : TE} {t : TA}
 {pins : List (Addr × Obj)} {σ : L2.St} {H : Hp} {s : Shared} {Q : VK} {us : List Value} {vs : List V}
theorem binds0 (hb : Binds X.K fd ps []) (I : Inv X pins σ H s) (h : us.length = ps.length) : BindsTo s fd ⟨us, []⟩ (ps.zip us) := by
 have := hb s us I.kIn (by rw [List.append_nil]; exact h)
 rwa [List.append_nil] at this
theorem FnG.runs (F : FnG X.prog X.w X.K X.mg X.base CX k f fd ps sp) (hr : Room k X.A) (g : cR X.A) (hb : Binds X.K fd ps []) (hx : Passes CX X E) (I : Inv X pins σ H s) (r : Vals vs us)
  (h : sp vs H Q E) : wpAny (model X.prog X.w) X.A (call (.ref f) us) (EP X pins σ Q) X.xe s :=
 wpAny_call (codeAny_mono (F.go hr g I.env0 (binds0 hb I (r.length.symm.trans (F.ar h))) r h) fun a b q => match a, q with
  | .error e, q => hx pins σ H s e b I q
  | .ok (.ret u), q => I.after q
  | .ok .next, q => q.elim
  | .ok .brk, q => q.elim
  | .ok .cont, q => q.elim)
theorem FnG.pe (F : FnG X.prog X.w X.K X.mg X.base CX k f fd ps sp) (hr : Room k X.A) (g : cR X.A) (hg : Gl X x) (hm : X.mg x = some (.ref f)) (hk : PySem.W.keepIn X.K (.ref f) = true) (hb : Binds X.K fd ps [])
  (hx : Passes CX X E) (ha : PA X (e :: es) t) (hdb : (x == ("__debug__" : Str)) = false) (he : starEach (e :: es) X.env = (false, eval e X.env) :: starEach es X.env)
  (hpl : (backTo pos (starEach es X.env)).any (·.1) = false) : PE X (.Call (.Name x p) (e :: es) [] pos) (tCall sp [] E t) :=
 ⟨fun pins s σ H Q I h => wpAny_Call_Name_kw (ld_glob I hg hm (PySem.W.callWith_K (h₀ := X.base) I.ok.mod.kin hk (thn (ha.run pos pins s σ H _ I h) fun us s1 ⟨vs, H1, I1, r, q⟩ =>
  ⟨I1.kIn, F.runs hr g hb hx I1 r (by simpa using q)⟩) he hpl) hdb)⟩
theorem rV {A : Around} (h : cR A) (C : Addr) (us : List Value) (kw : List (Str × Value)) : cR (A.under (.builtin "type.__call__" ⟨.ref C :: us, kw⟩)) := by
 have h1 : (Code.builtin "type.__call__" ⟨.ref C :: us, kw⟩).guards = [] := by
  have : (Code.builtin "type.__call__" ⟨.ref C :: us, kw⟩).isGuard = false := by simp [Code.isGuard, guardIds]
  unfold Code.guards; rw [this]; rfl
 unfold cR Around.under
 simp only [h1, pushGuards]
 exact h
end
theorem lY {CX : CXT} {P : Program} {w : World} {K : PySem.W.Frag} {mg : Str → Option Value} {base : Heap} {x qual : Str} {st : Stmt} {f : Addr} {fd : FuncData} {N ps : List Str} {k : Nat} {sp : Sp} (F : Fun K x qual st f fd)
  (S : FnScope N ps (defScope st)) (len : ∀ {vs H Q E}, sp vs H Q E → vs.length = ps.length)
  (body : ∀ (cdv : Value) (A : Around) (outer : List Env) (s : Shared) (H : Hp) (vs : List V) (Q : VK) (E : XK), fd.code = cdv → Room k (A.deeper (envOfC qual (defScope st) s.heap.objs.size f cdv)) → cR A → sp vs H Q E →
   ∃ t, PSs (cxOf CX P w K mg base N qual (defScope st) f cdv A outer s H E) (defBody st) t ∧ t { nx := fun _ H' => Q .non H', rt := Q } (start N vs) H) : FnG P w K mg base CX (k + 1) f fd ps sp := by
 obtain ⟨oc, od, kV, doc, pm, an, cdv, ct, osl, rfl, lk, hcd⟩ := F.ex
 refine ⟨len, fun {A outer s H args us vs Q E} hr hg e0 hb r hsp => ?_⟩
 have keep : ∀ b o, base.get? b = some o → s.heap.get? b = some o := fun b o e => (e0.bs b o e).1
 have KX : K.In s.heap := e0.mod.kin.keeps keep
 refine codeAny_call_function hr.depth (KX _ _ lk) rfl S.co S.gen rfl (PySem.W.codeRec_of KX hcd) (hb _ _ _ _ (wpAny_newFunctionEnv_cells S.kind (fun y hy => ?_) fun env he s1 i1 => ?_))
 ·rcases S.par y.1 (List.of_mem_zip hy).1 with q | q
  ·exact .inl q
  ·exact .inr ⟨q, PySem.W.cellsFrom_some _ _ _ (.inl q)⟩
 ·subst he
  obtain ⟨t, ht, hq⟩ := body cdv A outer s H vs Q E rfl (hr.deeper _) hg hsp
  have I := inv_start (CX := CX) (E := E) S hr.hd e0 (len hsp) r i1
  have fin : ∀ {σ' : L2.St} {H' : Hp} {v : V} {u : Value} {z : Shared}, Inv (cxOf CX P w K mg base N qual (defScope st) f cdv A outer s H E) [] σ' H' z → RelV v u → Q v H' → CE outer P w H s Q u z :=
   fun {σ' H' v u z} J rv q => ⟨v, H', J.os, J.bare, J.base, J.hok, rv, q⟩
  refine ⟨(e0.mod.nolimit.keeps keep).keeps i1.toInCall.keep, codeAny_func (wpAny_mono (ht.run [] s1 (start N vs) H _ I hq) (fun fl z hs => ?_) fun _ _ q => q)⟩
  match fl, hs with
  | .ret u, ⟨v, σ', H', J, rv, q⟩ => exact fin J rv q
  | .next, ⟨σ', H', J, q⟩ => exact fin (v := V.non) (u := Value.none) J rfl q
  | .brk, ⟨_, _, _, q⟩ => exact q.elim
  | .cont, ⟨_, _, _, q⟩ => exact q.elim
section
variable {P : Program} {w : World} {K : PySem.W.Frag} {mg mb : Str → Option Value} {CX : CXT} {k : Nat} {fa a : Addr} {fd : FuncData} {x : Str} {sp : Sp} {s₁ : Shared} {vs : List Value} {ns : List Int} {H : Hp}
abbrev wZ (s₁ : Shared) : Result → Shared → Prop := fun r z => r = .ok (.ret (.bool true)) ∧ OldK s₁.heap z.heap ∧ z.os = s₁.os ∧ AllBare z.gens
end
theorem vals_of_ints : ∀ {vs : List Value} {ns : List Int}, IntsAre vs ns → Vals (ns.map V.int) vs
 | _, _, .nil => .nil
 | _, _, .cons n t h => .cons ⟨t, rfl⟩ (vals_of_ints h)
end Q
namespace Q
open PySem L2
section
variable {Z : Zc}
def au (i : Nat) : ME := fun env => match env[i]? with
 | some (.imm d) => some (d, env)
 | some (.own d) => some (d, env.set i (.imm d))
 | _ => none
def mC (d : D) : ME := fun env => some (d, env)
theorem fM {X : Cx} {x : Str} (h : InF Z X) (hv : Vis Z.sc x) : Vis X.env.scope x := by rw [h.sc]; exact hv
theorem za {i : Nat} {x : Str} {pos : Pos} (hN : Z.N[i]? = some x) (hv : Vis Z.sc x) (hd : (x == ("__debug__" : Str)) = false := by decide) (hcd : (x == ("__classdict__" : Str)) = false := by decide) : EV Z (.Name x pos) (au i) := by
 refine ⟨tVar i, fun X h => pe_var (by rw [h.N]; exact hN) (fM h hv) hd hcd, fun g env σ I H Q d env' R hm k => ?_⟩
 unfold au at hm
 split at hm
 ·rename_i d' e
  cases hm
  obtain ⟨x, hx, v, rfl, r⟩ := R.at_ i _ e
  exact ⟨v, hx, k v I H R (Same.refl _) r⟩
 ·rename_i d' e
  cases hm
  obtain ⟨a, o, hx, R', s, r⟩ := R.frz e
  exact ⟨.ref a, hx, k _ _ H R' s r⟩
 ·cases hm
theorem nY {e : Expr} {d : D} {v : V} (h : ∀ X, InF Z X → PE X e (tC v)) (r : ∀ I, Rep Z.K Z.cl I d v) : EV Z e (mC d) :=
 ⟨tC v, h, fun g env σ I H Q d' env' R hm k => by cases hm; exact k v I H R (Same.refl _) (r I)⟩
theorem ao {i : Int} {j pos} : EV Z (.Constant (.int i) j pos) (mC (.int i)) := nY (fun _ _ => pe_int) fun _ => .int
theorem aJ {i : Str} {j pos} : EV Z (.Constant (.str i) j pos) (mC (.str i)) := nY (fun _ _ => pe_str) fun _ => .str
theorem fw {i : Bool} {j pos} : EV Z (.Constant (.bool i) j pos) (mC (.bl i)) := nY (fun _ _ => pe_bl) fun _ => .bl
theorem bM {j pos} : EV Z (.Constant .none j pos) (mC .non) := nY (fun _ _ => pe_non) fun _ => .non
def GlZ (Z : Zc) (x : Str) : Prop := Z.sc.names.lookup x = some .globalImplicit
theorem eL {X : Cx} {x : Str} (h : InF Z X) (hg : GlZ Z x) : Gl X x := by
 show X.env.scope.names.lookup x = _
 rw [h.sc]; exact hg
theorem qC {x : Str} {pos : Pos} {s : Str} (hg : GlZ Z x) (hm0 : ∃ t, Z.mg x = some (.str s t)) (hd : (x == ("__debug__" : Str)) = false := by decide) : EV Z (.Name x pos) (mC (.str s)) :=
 let ⟨t, hm⟩ := hm0
 nY (v := .str s) (fun X h => pe_glob (eL h hg) (by rw [h.mg]; exact hm) ⟨t, rfl⟩ hd) fun _ => .str
theorem uL {x : Str} {pos : Pos} {s : Int} (hg : GlZ Z x) (hm0 : ∃ t, Z.mg x = some (.int s t)) (hd : (x == ("__debug__" : Str)) = false := by decide) : EV Z (.Name x pos) (mC (.int s)) :=
 let ⟨t, hm⟩ := hm0
 nY (v := .int s) (fun X h => pe_glob (eL h hg) (by rw [h.mg]; exact hm) ⟨t, rfl⟩ hd) fun _ => .int
inductive Ls where
 | fix (d : D) | slot (i : Nat)
def Sl.rd : Sl → Option D
 | .un => none
 | .imm d => some d
 | .bor d => some d
 | .own d => some d
 | .lck d => some d
 | .io _ d => some d
def Ls.get (l : Ls) (env : En) : Option D := match l with
 | .fix d => some d
 | .slot i => env[i]?.bind Sl.rd
abbrev ML := En → Option (Ls × En)
def Rb (Z : Zc) (I H : Hp) (d : D) (v : V) : Prop := Rep Z.K Z.cl I d v ∨ ∃ a, v = .ref a ∧ Top Z.K Z.cl I H d a
def LsOk (Z : Zc) (I : Hp) (σ : St) : Ls → V → Prop
 | .fix d, v => Rep Z.K Z.cl I d v
 | .slot i, v => σ[i]? = some (some v)
theorem Ls.rb {g : G} {env : En} {σ : St} {I H : Hp} {l : Ls} {v : V} {d : D} (R : SR Z.K Z.cl g env σ I H) (h : LsOk Z I σ l v) (hg : l.get env = some d) : Rb Z I H d v := by
 cases l with
 | fix d' => cases hg; exact .inl h
 | slot i =>
  change env[i]?.bind Sl.rd = some d at hg
  cases e : env[i]? with
  | none => rw [e] at hg; cases hg
  | some s =>
   rw [e] at hg
   obtain ⟨x, hx, q⟩ := R.at_ i s e
   rw [show σ[i]? = some (some v) from h] at hx
   cases hx
   cases s with
   | un => cases hg
   | imm d' => cases hg; obtain ⟨u, hu, r⟩ := q; cases hu; exact .inl r
   | bor d' => cases hg; obtain ⟨a, hu, r⟩ := q; cases hu; exact .inr ⟨a, rfl, r⟩
   | own d' => cases hg; obtain ⟨a, o, hu, h1, h2, _⟩ := q; cases hu; exact .inr ⟨a, rfl, o, h1, h2⟩
   | lck d' => cases hg; obtain ⟨a, o, hu, h1, h2, _⟩ := q; cases hu; exact .inr ⟨a, rfl, o, h1, h2⟩
   | io k d' => cases hg; obtain ⟨a, o, hu, _, h1, h2⟩ := q; cases hu; exact .inr ⟨a, rfl, o, h1, h2⟩
def SL (Z : Zc) (t : TE) (m : ML) : Prop := ∀ (g : G) (env : En) (σ : St) (I H : Hp) (Q : VK) (l : Ls) (env' : En), SR Z.K Z.cl g env σ I H → m env = some (l, env') →
 (∀ v I' H', SR Z.K Z.cl g env' σ I' H' → Same I I' → LsOk Z I' σ l v → Q v H') → t σ H Q
def LV (Z : Zc) (e : Expr) (m : ML) : Prop := ∃ t, (∀ X, InF Z X → PE X e t) ∧ SL Z t m
def af (i : Nat) : ML := fun env => (env[i]?.bind Sl.rd).map fun _ => (.slot i, env)
def aa (m : ME) : ML := fun env => (m env).map fun p => (.fix p.1, p.2)
theorem zp {i : Nat} {x : Str} {pos : Pos} (hN : Z.N[i]? = some x) (hv : Vis Z.sc x) (hd : (x == ("__debug__" : Str)) = false := by decide) (hcd : (x == ("__classdict__" : Str)) = false := by decide) : LV Z (.Name x pos) (af i) := by
 refine ⟨tVar i, fun X h => pe_var (by rw [h.N]; exact hN) (fM h hv) hd hcd, fun g env σ I H Q l env' R hm k => ?_⟩
 unfold af at hm
 cases e : env[i]? with
 | none => rw [e] at hm; cases hm
 | some s =>
  rw [e] at hm
  obtain ⟨x, hx, q⟩ := R.at_ i _ e
  have fin : ∀ v, x = some v → (l, env') = (Ls.slot i, env) → ∃ v, σ[i]? = some (some v) ∧ Q v H := fun v hxv he => by
   cases he
   subst hxv
   exact ⟨v, hx, k v I H R (Same.refl _) hx⟩
  cases s with
  | un => cases hm
  | imm d => cases hm; obtain ⟨v, e, _⟩ := q; exact fin v e rfl
  | bor d => cases hm; obtain ⟨v, e, _⟩ := q; exact fin _ e rfl
  | own d => cases hm; obtain ⟨v, o, e, _⟩ := q; exact fin _ e rfl
  | lck d => cases hm; obtain ⟨v, o, e, _⟩ := q; exact fin _ e rfl
  | io j d => cases hm; obtain ⟨v, o, e, _⟩ := q; exact fin _ e rfl
theorem ah {e : Expr} {m : ME} (h : EV Z e m) : LV Z e (aa m) := by
 obtain ⟨t, h1, h2⟩ := h
 refine ⟨t, h1, fun g env σ I H Q l env' R hm k => ?_⟩
 unfold aa at hm
 cases e : m env with
 | none => rw [e] at hm; cases hm
 | some p =>
  rw [e] at hm
  cases hm
  exact h2 g env σ I H Q p.1 p.2 R e k
theorem LsOk.mono {I I' : Hp} {σ : St} {l : Ls} {v : V} (s : Same I I') (h : LsOk Z I σ l v) : LsOk Z I' σ l v := by
 cases l with
 | fix d => exact Rep.mono s h
 | slot i => exact h
theorem Rb.int {I H : Hp} {i : Int} {v : V} (h : Rb Z I H (.int i) v) : v = .int i := by
 rcases h with h | ⟨a, _, o, _, h⟩
 ·exact h.int_inv
 ·cases h
theorem Rb.str {I H : Hp} {i : Str} {v : V} (h : Rb Z I H (.str i) v) : v = .str i := by
 rcases h with h | ⟨a, _, o, _, h⟩
 ·exact h.str_inv
 ·cases h
theorem Rb.bl {I H : Hp} {i : Bool} {v : V} (h : Rb Z I H (.bl i) v) : v = .bl i := by
 rcases h with h | ⟨a, _, o, _, h⟩
 ·exact h.bl_inv
 ·cases h
theorem Rb.non {I H : Hp} {v : V} (h : Rb Z I H .non v) : v = .non := by
 rcases h with h | ⟨a, _, o, _, h⟩
 ·exact h.non_inv
 ·cases h
theorem Rb.typ {I H : Hp} {n : String} {v : V} (h : Rb Z I H (.typ n) v) : v = .ty n := by
 rcases h with h | ⟨a, _, o, _, h⟩
 ·exact h.typ_inv
 ·cases h
theorem Rb.lst {I H : Hp} {xs : List D} {v : V} (s : Same I H) (h : Rb Z I H (.lst xs) v) : ∃ a vs, v = .ref a ∧ H a = some (.lst vs) ∧ aI Z.K Z.cl I xs vs := by
 rcases h with h | ⟨a, rfl, o, e, h⟩
 ·obtain ⟨a, vs, rfl, e, r⟩ := h.lst_inv
  exact ⟨a, vs, rfl, s _ _ e, r⟩
 ·obtain ⟨vs, rfl, r⟩ := h.lst_inv
  exact ⟨a, vs, rfl, e, r⟩
theorem Rb.scr {I H : Hp} {xs : List D} {v : V} (s : Same I H) (h : Rb Z I H (.scr xs) v) : ∃ a vs, v = .ref a ∧ SqL Z.K H a vs ∧ aI Z.K Z.cl I xs vs := by
 rcases h with h | ⟨a, rfl, o, e, h⟩
 ·obtain ⟨a, vs, rfl, e, r⟩ := h.scr_inv
  exact ⟨a, vs, rfl, s.seq e, r⟩
 ·cases h
theorem SqT.mono {K : PySem.W.Frag} {I I' : Hp} {a : Addr} {vs : List V} (s : Same I I') (h : SqT K I a vs) : SqT K I' a vs := by
 rcases h with (h | ⟨o, h⟩) | h
 ·exact .inl (.inl (s _ _ h))
 ·exact .inl (.inr ⟨o, s _ _ h⟩)
 ·exact .inr h
theorem Rb.tup {I H : Hp} {xs : List D} {v : V} (s : Same I H) (h : Rb Z I H (.tup xs) v) : ∃ a vs, v = .ref a ∧ SqT Z.K H a vs ∧ aI Z.K Z.cl I xs vs := by
 rcases h with h | ⟨a, rfl, o, e, h⟩
 ·obtain ⟨a, vs, rfl, e, r⟩ := h.tup_inv
  exact ⟨a, vs, rfl, SqT.mono s e, r⟩
 ·cases h
theorem Rb.dic {I H : Hp} {ks xs} {v : V} (s : Same I H) (h : Rb Z I H (.dic ks xs) v) : ∃ a vs, v = .ref a ∧ Rd H a (.dK (ks.zip vs)) ∧ aI Z.K Z.cl I xs vs ∧ ks.length = xs.length := by
 rcases h with h | ⟨a, rfl, o, e, h⟩
 ·obtain ⟨a, vs, rfl, e, r, l⟩ := h.dic_inv
  rcases e with e | ⟨od, e⟩
  ·exact ⟨a, vs, rfl, .inl (s _ _ e), r, l⟩
  ·exact ⟨a, vs, rfl, .inr ⟨od, s _ _ e⟩, r, l⟩
 ·obtain ⟨vs, rfl, r, l⟩ := h.dic_inv
  exact ⟨a, vs, rfl, .inl e, r, l⟩
def cx (Z : Zc) (r : R2) (f : D → D → Option D) : Prop := ∀ (I H : Hp) (x y z : D) (vx vy : V) (Q : VK), Same I H → Rb Z I H x vx → Rb Z I H y vy → f x y = some z → (∀ vz, Rep Z.K Z.cl I z vz → Q vz H) → r vx vy H Q
def jC (Z : Zc) (r : R2) (f : D → D → Option D) : Prop := ∀ (I H : Hp) (x y z : D) (vx vy : V) (Q : VK), Same I H → Rb Z I H x vx → Rb Z I H y vy → f x y = some z →
 (∀ p o, H p = none → bu Z.K Z.cl I z o → Q (.ref p) (upd H p o)) → r vx vy H Q
def ae (f : D → D → Option D) (a b : ML) : ME := fun env => (a env).bind fun p => (b p.2).bind fun q => (p.1.get q.2).bind fun x => (q.1.get q.2).bind fun y => (f x y).map fun z => (z, q.2)
theorem pC {f : D → D → Option D} {a b : ML} {env env' : En} {z : D} (h : ae f a b env = some (z, env')) :
  ∃ la e1 lb x y, a env = some (la, e1) ∧ b e1 = some (lb, env') ∧ la.get env' = some x ∧ lb.get env' = some y ∧ f x y = some z := by
 unfold ae at h
 cases h1 : a env with
 | none => rw [h1] at h; cases h
 | some p =>
  rw [h1] at h
  simp only [Option.bind_some] at h
  cases h2 : b p.2 with
  | none => rw [h2] at h; cases h
  | some q =>
   rw [h2] at h
   simp only [Option.bind_some] at h
   cases h3 : p.1.get q.2 with
   | none => rw [h3] at h; cases h
   | some x =>
    rw [h3] at h
    simp only [Option.bind_some] at h
    cases h4 : q.1.get q.2 with
    | none => rw [h4] at h; cases h
    | some y =>
     rw [h4] at h
     simp only [Option.bind_some] at h
     cases h5 : f x y with
     | none => rw [h5] at h; cases h
     | some w =>
      rw [h5] at h
      cases h
      exact ⟨_, _, _, _, _, rfl, h2, h3, h4, h5⟩
theorem nJ {r : R2} {f : D → D → Option D} {ta tb : TE} {ma mb : ML} (hr : cx Z r f) (ha : SL Z ta ma) (hb : SL Z tb mb) : SE Z (tOp r ta tb) (ae f ma mb) := by
 intro g env σ I H Q d env' R hm k
 obtain ⟨la, e1, lb, x, y, h1, h2, h3, h4, h5⟩ := pC hm
 refine ha g env σ I H _ la e1 R h1 fun vx I1 H1 R1 s1 o1 => ?_
 refine hb g e1 σ I1 H1 _ lb env' R1 h2 fun vy I2 H2 R2 s2 o2 => ?_
 exact hr I2 H2 x y d vx vy Q R2.sub (Ls.rb R2 (o1.mono s2) h3) (Ls.rb R2 o2 h4) h5 fun vz rz => k vz I2 H2 R2 (s1.trans s2) rz
theorem yB {r : R2} {f : D → D → Option D} {ta tb : TE} {ma mb : ML} (hr : jC Z r f) (ha : SL Z ta ma) (hb : SL Z tb mb) : SF Z (tOp r ta tb) (ae f ma mb) := by
 intro g env σ I H Q d env' R hm k
 obtain ⟨la, e1, lb, x, y, h1, h2, h3, h4, h5⟩ := pC hm
 refine ha g env σ I H _ la e1 R h1 fun vx I1 H1 R1 s1 o1 => ?_
 refine hb g e1 σ I1 H1 _ lb env' R1 h2 fun vy I2 H2 R2 s2 o2 => ?_
 exact hr I2 H2 x y d vx vy Q R2.sub (Ls.rb R2 (o1.mono s2) h3) (Ls.rb R2 o2 h4) h5 fun p o hp ro => k p o I2 (upd H2 p o) (R2.alloc hp o) (s1.trans s2) (R2.new hp) ro
theorem aX {op : Operator} {r : R2} {f : D → D → Option D} {a b : Expr} {ma mb : ML} {pos : Pos} (ho : ∀ X, InF Z X → OpR X (binaryOp op) r) (hr : cx Z r f) (ha : LV Z a ma) (hb : LV Z b mb) : EV Z (.BinOp a op b pos) (ae f ma mb) := by
 obtain ⟨ta, a1, a2⟩ := ha
 obtain ⟨tb, b1, b2⟩ := hb
 exact ⟨_, fun X h => pe_op (ho X h) (a1 X h) (b1 X h), nJ hr a2 b2⟩
theorem oX {op : Operator} {r : R2} {f : D → D → Option D} {a b : Expr} {ma mb : ML} {pos : Pos} (ho : ∀ X, InF Z X → OpR X (binaryOp op) r) (hr : jC Z r f) (ha : LV Z a ma) (hb : LV Z b mb) : EF Z (.BinOp a op b pos) (ae f ma mb) := by
 obtain ⟨ta, a1, a2⟩ := ha
 obtain ⟨tb, b1, b2⟩ := hb
 exact ⟨_, fun X h => pe_op (ho X h) (a1 X h) (b1 X h), yB hr a2 b2⟩
theorem gA {op : CmpOp} {r : R2} {f : D → D → Option D} {a b : Expr} {ma mb : ML} {pos : Pos} (ho : ∀ X, InF Z X → OpR X (compareOp op) r) (hr : cx Z r f) (ha : LV Z a ma) (hb : LV Z b mb) (hm : behindInMarks op b = false) : EV Z (.Compare a [op] [b] pos) (ae f ma mb) := by
 obtain ⟨ta, a1, a2⟩ := ha
 obtain ⟨tb, b1, b2⟩ := hb
 exact ⟨_, fun X h => pe_cmpR (ho X h) (a1 X h) (b1 X h) hm, nJ hr a2 b2⟩
def aq (m : ME) : MT := fun env => (m env).bind fun p => match p.1 with
 | .bl b => some (b, p.2)
 | _ => none
theorem kW {m : ME} {env env' : En} {b : Bool} (h : aq m env = some (b, env')) : m env = some (.bl b, env') := by
 unfold aq at h
 cases h1 : m env with
 | none => rw [h1] at h; cases h
 | some p =>
  rw [h1] at h
  obtain ⟨d, e⟩ := p
  cases d <;> first | (cases h; rfl) | cases h
theorem aS {op : CmpOp} {r : R2} {f : D → D → Option D} {a b : Expr} {ma mb : ML} {pos : Pos} (ho : ∀ X, InF Z X → OpR X (compareOp op) r) (hr : cx Z r f) (ha : LV Z a ma) (hb : LV Z b mb) (hm : behindInMarks op b = false) : TV Z (.Compare a [op] [b] pos) (aq (ae f ma mb)) := by
 obtain ⟨ta, a1, a2⟩ := ha
 obtain ⟨tb, b1, b2⟩ := hb
 refine ⟨_, fun X h => pt_cmpR (ho X h) (a1 X h) (b1 X h) hm, fun g env σ I H Q c env' R hm k => ?_⟩
 refine nJ hr a2 b2 g env σ I H _ _ env' R (kW hm) fun v I' H' R' s rv => ?_
 exact ⟨c, rv.bl_inv, k I' H' R' s⟩
end
end Q
namespace Q
open PySem L2
section
variable {Z : Zc}
def aK : D → D → Option D
 | .int a, .int b => some (.int (a + b))
 | .str a, .str b => if a.length + b.length ≤ sizeLine then some (.str (a ++ b)) else none
 | _, _ => none
def vI : R2 := fun x y H Q => rI0 (fun i j => .int (i + j)) x y H Q ∨ ∃ i j, x = .str i ∧ y = .str j ∧ i.length + j.length ≤ sizeLine ∧ Q (.str (i ++ j)) H
theorem bf : cx Z vI aK := by
 intro I H x y z vx vy Q s rx ry h k
 unfold aK at h
 split at h
 ·cases h; cases rx.int; cases ry.int; exact .inl ⟨_, _, rfl, rfl, k _ .int⟩
 ·split at h
  ·rename_i hl; cases h; cases rx.str; cases ry.str; exact .inr ⟨_, _, rfl, rfl, hl, k _ .str⟩
  ·cases h
 ·cases h
theorem bj {X : Cx} : OpR X (binaryOp .Add) vI := OpR.or op_add op_add_str
def pV : D → D → Option D
 | .int a, .int b => some (.int (a - b))
 | _, _ => none
theorem y6 : cx Z (rI0 fun i j => .int (i - j)) pV := by
 intro I H x y z vx vy Q s rx ry h k
 unfold pV at h
 split at h
 ·cases h; cases rx.int; cases ry.int; exact ⟨_, _, rfl, rfl, k _ .int⟩
 ·cases h
instance (i j : Int) : Decidable (CMul i j) := by unfold CMul; exact inferInstance
instance (i j : Int) : Decidable (CDiv i j) := by unfold CDiv; exact inferInstance
instance (i j : Int) : Decidable (CPow i j) := by unfold CPow; exact inferInstance
def dS : D → D → Option D
 | .int a, .int b => if CMul a b then some (.int (a * b)) else none
 | _, _ => none
theorem jy : cx Z (rI CMul fun i j => .int (i * j)) dS := by
 intro I H x y z vx vy Q s rx ry h k
 unfold dS at h
 split at h
 ·split at h
  ·rename_i hl; cases h; cases rx.int; cases ry.int; exact ⟨_, _, rfl, rfl, hl, k _ .int⟩
  ·cases h
 ·cases h
def jT : D → D → Option D
 | .int a, .int b => if CDiv a b then some (.int (a / b)) else none
 | _, _ => none
theorem sX : cx Z (rI CDiv fun i j => .int (i / j)) jT := by
 intro I H x y z vx vy Q s rx ry h k
 unfold jT at h
 split at h
 ·split at h
  ·rename_i hl; cases h; cases rx.int; cases ry.int; exact ⟨_, _, rfl, rfl, hl, k _ .int⟩
  ·cases h
 ·cases h
def gp : D → D → Option D
 | .int a, .int b => if 0 < b then some (.int (a % b)) else none
 | _, _ => none
theorem kE : cx Z (rI (fun _ j => 0 < j) fun i j => .int (i % j)) gp := by
 intro I H x y z vx vy Q s rx ry h k
 unfold gp at h
 split at h
 ·split at h
  ·rename_i hl; cases h; cases rx.int; cases ry.int; exact ⟨_, _, rfl, rfl, hl, k _ .int⟩
  ·cases h
 ·cases h
def qa : D → D → Option D
 | .int a, .int b => if CPow a b then some (.int (a ^ b.toNat)) else none
 | _, _ => none
theorem y5 : cx Z (rI CPow fun i j => .int (i ^ j.toNat)) qa := by
 intro I H x y z vx vy Q s rx ry h k
 unfold qa at h
 split at h
 ·split at h
  ·rename_i hl; cases h; cases rx.int; cases ry.int; exact ⟨_, _, rfl, rfl, hl, k _ .int⟩
  ·cases h
 ·cases h
def ff : D → D → Option D
 | .lst a, .lst b => if a.length + b.length ≤ sizeLine then some (.lst (a ++ b)) else none
 | _, _ => none
theorem jF : jC Z rCat ff := by
 intro I H x y z vx vy Q s rx ry h k
 unfold ff at h
 split at h
 ·split at h
  ·rename_i hl
   cases h
   obtain ⟨a, vs, rfl, ha, ra⟩ := rx.lst s
   obtain ⟨b, us, rfl, hb, rb⟩ := ry.lst s
   exact ⟨a, b, vs, us, rfl, rfl, ha, hb, by rw [← ra.length, ← rb.length]; exact hl, fun p hp => k p _ hp (.lst (ra.append rb))⟩
  ·cases h
 ·cases h
def mE (p : Int → Int → Bool) : D → D → Option D
 | .int a, .int b => some (.bl (p a b))
 | _, _ => none
theorem dY {p : Int → Int → Bool} : cx Z (rI0 fun i j => .bl (p i j)) (mE p) := by
 intro I H x y z vx vy Q s rx ry h k
 unfold mE at h
 split at h
 ·cases h; cases rx.int; cases ry.int; exact ⟨_, _, rfl, rfl, k _ .bl⟩
 ·cases h
abbrev dLt := mE fun i j => decide (i < j)
abbrev dLe := mE fun i j => decide (i ≤ j)
abbrev dGt := mE fun i j => decide (j < i)
abbrev dGe := mE fun i j => decide (j ≤ i)
mutual
def toP : D → Option PyData
 | .non => some .none
 | .bl b => some (.bool b)
 | .int i => some (.int i)
 | .str s => some (.str s)
 | .lst xs => (eO xs).map .list
 | .scr xs => (eO xs).map .list
 | .tup xs => (eO xs).map .tuple
 | _ => none
def eO : List D → Option (List PyData)
 | [] => some []
 | x :: xs => (toP x).bind fun p => (eO xs).map fun ps => p :: ps
end
mutual
theorem sP {I H : Hp} (s : Same I H) : ∀ (d : D) (p : PyData) (v : V), toP d = some p → Rep Z.K Z.cl I d v → Dp Z.K H v p
 | .non, p, v, h, r => by unfold toP at h; cases h; cases r.non_inv; exact .non
 | .bl b, p, v, h, r => by unfold toP at h; cases h; cases r.bl_inv; exact .bl _
 | .int b, p, v, h, r => by unfold toP at h; cases h; cases r.int_inv; exact .int _
 | .str b, p, v, h, r => by unfold toP at h; cases h; cases r.str_inv; exact .str _
 | .lst xs, p, v, h, r => by
  unfold toP at h
  cases e : eO xs with
  | none => rw [e] at h; cases h
  | some ps =>
   rw [e] at h; cases h
   obtain ⟨a, vs, rfl, ha, ra⟩ := r.lst_inv
   exact .lst (SqL.of (s _ _ ha)) (jH s xs ps vs e ra)
 | .scr xs, p, v, h, r => by
  unfold toP at h
  cases e : eO xs with
  | none => rw [e] at h; cases h
  | some ps =>
   rw [e] at h; cases h
   obtain ⟨a, vs, rfl, ha, ra⟩ := r.scr_inv
   exact .lst (s.seq ha) (jH s xs ps vs e ra)
 | .tup xs, p, v, h, r => by
  unfold toP at h
  cases e : eO xs with
  | none => rw [e] at h; cases h
  | some ps =>
   rw [e] at h; cases h
   obtain ⟨a, vs, rfl, ha, ra⟩ := r.tup_inv
   exact .tup (SqT.mono s ha) (jH s xs ps vs e ra)
 | .dic _ _, p, v, h, r => by unfold toP at h; cases h
 | .obj _ _ _, p, v, h, r => by unfold toP at h; cases h
 | .typ _, p, v, h, r => by unfold toP at h; cases h
 | .dcn _ _, p, v, h, r => by unfold toP at h; cases h
theorem jH {I H : Hp} (s : Same I H) : ∀ (ds : List D) (ps : List PyData) (vs : List V), eO ds = some ps → aI Z.K Z.cl I ds vs → DpAll Z.K H vs ps
 | [], ps, vs, h, r => by unfold eO at h; cases h; cases r; exact .nil
 | d :: ds, ps, vs, h, r => by
  unfold eO at h
  cases e : toP d with
  | none => rw [e] at h; cases h
  | some p =>
   rw [e] at h
   cases e2 : eO ds with
   | none => rw [e2] at h; cases h
   | some qs =>
    rw [e2] at h
    cases h
    cases r with
    | cons r1 r2 => exact .cons (sP s d p _ e r1) (jH s ds qs _ e2 r2)
end
theorem Rb.dp {I H : Hp} (s : Same I H) {d : D} {p : PyData} {v : V} (h : toP d = some p) (r : Rb Z I H d v) : Dp Z.K H v p := by
 rcases r with r | ⟨a, rfl, o, ha, r⟩
 ·exact sP s d p v h r
 ·cases r with
  | lst ra =>
   unfold toP at h
   rename_i xs vs
   cases e : eO xs with
   | none => rw [e] at h; cases h
   | some ps => rw [e] at h; cases h; exact .lst (SqL.of ha) (jH s _ _ _ e ra)
  | dic => unfold toP at h; cases h
  | obj => unfold toP at h; cases h
  | dcn => unfold toP at h; cases h
def aG (neg : Bool) : D → D → Option D
 | .str a, .str b => some (.bl (if neg then !decide (a = b) else decide (a = b)))
 | x, y => (toP x).bind fun d => (toP y).bind fun e => if (SeqAt.shaped d && SeqAt.shaped e) = true then some (.bl (if neg then !PyData.eqv d e else PyData.eqv d e)) else none
def zS (K : PySem.W.Frag) : R2 := fun x y H Q => rEq x y H Q ∨ rEqD K x y H Q
def zJ (K : PySem.W.Frag) : R2 := fun x y H Q => rNe x y H Q ∨ rNeD K x y H Q
theorem or_eq {X : Cx} (h : InF Z X) : OpR X (compareOp .Eq) (zS Z.K) := by
 rw [← h.K]
 exact OpR.or op_eq (op_eqD h.room.units)
theorem fB {X : Cx} (h : InF Z X) : OpR X (compareOp .NotEq) (zJ Z.K) := by
 rw [← h.K]
 exact OpR.or op_ne (op_neD h.room.units)
theorem pU {neg : Bool} {x y z : D} (h : aG neg x y = some z) : (∃ a b, x = .str a ∧ y = .str b ∧ z = .bl (if neg then !decide (a = b) else decide (a = b))) ∨
  ∃ d e, toP x = some d ∧ toP y = some e ∧ SeqAt.shaped d = true ∧ SeqAt.shaped e = true ∧ z = .bl (if neg then !PyData.eqv d e else PyData.eqv d e) := by
 unfold aG at h
 split at h
 ·cases h; exact .inl ⟨_, _, rfl, rfl, rfl⟩
 ·refine .inr ?_
  cases e1 : toP x with
  | none => rw [e1] at h; cases h
  | some d =>
   rw [e1] at h
   cases e2 : toP y with
   | none => rw [e2] at h; cases h
   | some e =>
    rw [e2] at h
    simp only [Option.bind_some] at h
    split at h
    ·rename_i hs
     cases h
     rw [Bool.and_eq_true] at hs
     exact ⟨d, e, rfl, rfl, hs.1, hs.2, rfl⟩
    ·cases h
theorem dj : cx Z (zS Z.K) (aG false) := by
 intro I H x y z vx vy Q s rx ry h k
 rcases pU h with ⟨a, b, rfl, rfl, rfl⟩ | ⟨d, e, h1, h2, h3, h4, rfl⟩
 ·cases rx.str; cases ry.str
  refine .inl ⟨rfl, ?_⟩
  have e : decide (V.str a = V.str b) = decide (a = b) := by simp
  rw [e]
  exact k _ .bl
 ·exact .inr ⟨d, e, rx.dp s h1, ry.dp s h2, h3, h4, k _ .bl⟩
theorem fE : cx Z (zJ Z.K) (aG true) := by
 intro I H x y z vx vy Q s rx ry h k
 rcases pU h with ⟨a, b, rfl, rfl, rfl⟩ | ⟨d, e, h1, h2, h3, h4, rfl⟩
 ·cases rx.str; cases ry.str
  refine .inl ⟨rfl, ?_⟩
  have e : decide (V.str a = V.str b) = decide (a = b) := by simp
  rw [e]
  exact k _ .bl
 ·exact .inr ⟨d, e, rx.dp s h1, ry.dp s h2, h3, h4, k _ .bl⟩
def D.isNon : D → Bool
 | .non => true
 | _ => false
def dIs (neg : Bool) : D → D → Option D
 | x, .non => some (.bl (if neg then !x.isNon else x.isNon))
 | _, _ => none
theorem Rb.isNon {I H : Hp} {d : D} {v : V} (r : Rb Z I H d v) : decide (v = .non) = d.isNon := by
 rcases r with r | ⟨a, rfl, o, ha, r⟩
 ·cases r with
  | obj _ q => cases q <;> rfl
  | _ => rfl
 ·cases r <;> rfl
theorem gq : cx Z (fun x y H Q => y = .non ∧ Q (.bl (decide (x = .non))) H) (dIs false) := by
 intro I H x y z vx vy Q s rx ry h k
 unfold dIs at h
 split at h
 ·cases h; cases ry.non
  rw [rx.isNon]
  exact ⟨rfl, k _ .bl⟩
 ·cases h
theorem iO : cx Z (fun x y H Q => y = .non ∧ Q (.bl (!decide (x = .non))) H) (dIs true) := by
 intro I H x y z vx vy Q s rx ry h k
 unfold dIs at h
 split at h
 ·cases h; cases ry.non
  rw [rx.isNon]
  exact ⟨rfl, k _ .bl⟩
 ·cases h
end
end Q
namespace Q
open PySem L2
section
variable {Z : Zc}
def D.items? : D → Option (List D)
 | .lst xs => some xs
 | .scr xs => some xs
 | .tup xs => some xs
 | _ => none
def D.flat? : D → Option V
 | .non => some .non
 | .bl b => some (.bl b)
 | .int i => some (.int i)
 | .str s => some (.str s)
 | _ => none
def gY : List D → Option (List V)
 | [] => some []
 | d :: ds => d.flat?.bind fun v => (gY ds).map fun vs => v :: vs
theorem pZ {K : PySem.W.Frag} {cl : String → Option Addr} {I : Hp} {d : D} {v u : V} (h : d.flat? = some v) (r : Rep K cl I d u) : u = v ∧ flatV v = true := by
 cases d <;> simp only [D.flat?] at h <;> first | (cases h; first | exact ⟨r.non_inv, rfl⟩ | exact ⟨r.bl_inv, rfl⟩ | exact ⟨r.int_inv, rfl⟩ | exact ⟨r.str_inv, rfl⟩) | cases h
theorem ky {K : PySem.W.Frag} {cl : String → Option Addr} {I : Hp} : ∀ {ds : List D} {vs us : List V}, gY ds = some vs → aI K cl I ds us → us = vs ∧ vs.all flatV = true
 | [], vs, us, h, r => by cases h; cases r; exact ⟨rfl, rfl⟩
 | d :: ds, vs, us, h, r => by
  unfold gY at h
  cases e : d.flat? with
  | none => rw [e] at h; cases h
  | some v =>
   rw [e] at h
   cases e2 : gY ds with
   | none => rw [e2] at h; cases h
   | some ws =>
    rw [e2] at h
    cases h
    cases r with
    | cons r1 r2 =>
     obtain ⟨rfl, h1⟩ := pZ e r1
     obtain ⟨rfl, h2⟩ := ky e2 r2
     exact ⟨rfl, by rw [List.all_cons, h1, h2]; rfl⟩
theorem Rb.flat {I H : Hp} {d : D} {v u : V} (h : d.flat? = some v) (r : Rb Z I H d u) : u = v ∧ flatV v = true := by
 rcases r with r | ⟨a, rfl, o, _, r⟩
 ·exact pZ h r
 ·cases r <;> cases h
def Str.sign? (s : Str) : Option Nat := match s.cps.toList with
 | [c] => some c
 | _ => none
def dIn (neg : Bool) (x y : D) : Option D := match y with
 | .str z => match x with
  | .str s => some (.bl (match Str.sign? s with
   | some c => if neg then !decide (c ∈ z.cps.toList) else decide (c ∈ z.cps.toList)
   | none => if neg then !(!(Builtin.Str.occurrences z s 0 z.length 1).isEmpty) else !(Builtin.Str.occurrences z s 0 z.length 1).isEmpty))
  | _ => none
 | _ => y.items?.bind fun ds => (gY ds).bind fun vs => x.flat?.map fun v => .bl (if neg then !inV v vs else inV v vs)
def y9 (K : PySem.W.Frag) : R2 := fun x y H Q => (∃ (c : Nat) (z : Str), x = .str ⟨#[c]⟩ ∧ y = .str z ∧ Q (.bl (decide (c ∈ z.cps.toList))) H) ∨ (∃ i j, x = .str i ∧ y = .str j ∧ Q (.bl (!(Builtin.Str.occurrences j i 0 j.length 1).isEmpty)) H) ∨ rIn K false x y H Q
def vA (K : PySem.W.Frag) : R2 := fun x y H Q => (∃ (c : Nat) (z : Str), x = .str ⟨#[c]⟩ ∧ y = .str z ∧ Q (.bl (!decide (c ∈ z.cps.toList))) H) ∨ (∃ i j, x = .str i ∧ y = .str j ∧ Q (.bl (!(!(Builtin.Str.occurrences j i 0 j.length 1).isEmpty))) H) ∨ rIn K true x y H Q
theorem AQ {X : Cx} (h : InF Z X) : OpR X (compareOp .In) (y9 Z.K) := by
 rw [← h.K]
 exact OpR.or op_in_sign (OpR.or op_in_str op_in_seq)
theorem pO {X : Cx} (h : InF Z X) : OpR X (compareOp .NotIn) (vA Z.K) := by
 rw [← h.K]
 exact OpR.or op_notIn_sign (OpR.or op_notin_str op_notIn_seq)
theorem qc {s : Str} {c : Nat} (h : Str.sign? s = some c) : s = ⟨#[c]⟩ := by
 unfold Str.sign? at h
 obtain ⟨a⟩ := s
 split at h
 ·rename_i d e
  cases h
  have : a = #[c] := by
   have q := congrArg List.toArray e
   simpa using q
  rw [this]
 ·cases h
theorem rk {neg : Bool} {x y z : D} (h : dIn neg x y = some z) :
  (∃ s t, x = .str s ∧ y = .str t ∧ z = .bl (match Str.sign? s with
   | some c => if neg then !decide (c ∈ t.cps.toList) else decide (c ∈ t.cps.toList)
   | none => if neg then !(!(Builtin.Str.occurrences t s 0 t.length 1).isEmpty) else !(Builtin.Str.occurrences t s 0 t.length 1).isEmpty)) ∨
  ∃ ds vs v, y.items? = some ds ∧ gY ds = some vs ∧ x.flat? = some v ∧ z = .bl (if neg then !inV v vs else inV v vs) := by
 unfold dIn at h
 split at h
 ·split at h
  ·cases h; exact .inl ⟨_, _, rfl, rfl, rfl⟩
  ·cases h
 ·refine .inr ?_
  cases e1 : y.items? with
  | none => rw [e1] at h; cases h
  | some ds =>
   rw [e1] at h
   simp only [Option.bind_some] at h
   cases e2 : gY ds with
   | none => rw [e2] at h; cases h
   | some vs =>
    rw [e2] at h
    simp only [Option.bind_some] at h
    cases e3 : x.flat? with
    | none => rw [e3] at h; cases h
    | some v => rw [e3] at h; cases h; exact ⟨_, _, _, rfl, e2, rfl, rfl⟩
theorem Rb.items {I H : Hp} (s : Same I H) {d : D} {xs : List D} {v : V} (h : d.items? = some xs) (r : Rb Z I H d v) : ∃ a vs, v = .ref a ∧ (SqL Z.K H a vs ∨ SqT Z.K H a vs) ∧ aI Z.K Z.cl I xs vs := by
 unfold D.items? at h
 split at h
 ·cases h; obtain ⟨a, vs, e, h1, h2⟩ := r.lst s; exact ⟨a, vs, e, .inl (SqL.of h1), h2⟩
 ·cases h; obtain ⟨a, vs, e, h1, h2⟩ := r.scr s; exact ⟨a, vs, e, .inl h1, h2⟩
 ·cases h; obtain ⟨a, vs, e, h1, h2⟩ := r.tup s; exact ⟨a, vs, e, .inr h1, h2⟩
 ·cases h
theorem Bv : cx Z (y9 Z.K) (dIn false) := by
 intro I H x y z vx vy Q s rx ry h k
 rcases rk h with ⟨a, b, rfl, rfl, rfl⟩ | ⟨ds, vs, v, h1, h2, h3, rfl⟩
 ·cases rx.str; cases ry.str
  cases e : Str.sign? a with
  | some c =>
   rw [e] at k
   cases qc e
   exact .inl ⟨c, b, rfl, rfl, k _ .bl⟩
  | none => rw [e] at k; exact .inr (.inl ⟨a, b, rfl, rfl, k _ .bl⟩)
 ·obtain ⟨p, us, rfl, h4, h5⟩ := ry.items s h1
  obtain ⟨rfl, h6⟩ := ky h2 h5
  obtain ⟨rfl, h7⟩ := rx.flat h3
  exact .inr (.inr ⟨p, us, rfl, h4, h7, h6, k _ .bl⟩)
theorem qb : cx Z (vA Z.K) (dIn true) := by
 intro I H x y z vx vy Q s rx ry h k
 rcases rk h with ⟨a, b, rfl, rfl, rfl⟩ | ⟨ds, vs, v, h1, h2, h3, rfl⟩
 ·cases rx.str; cases ry.str
  cases e : Str.sign? a with
  | some c =>
   rw [e] at k
   cases qc e
   exact .inl ⟨c, b, rfl, rfl, k _ .bl⟩
  | none => rw [e] at k; exact .inr (.inl ⟨a, b, rfl, rfl, k _ .bl⟩)
 ·obtain ⟨p, us, rfl, h4, h5⟩ := ry.items s h1
  obtain ⟨rfl, h6⟩ := ky h2 h5
  obtain ⟨rfl, h7⟩ := rx.flat h3
  exact .inr (.inr ⟨p, us, rfl, h4, h7, h6, k _ .bl⟩)
def D.key? : D → Option Key
 | .int i => some (.inl i)
 | .str s => some (.inr s)
 | _ => none
def dIx : D → D → Option D
 | .lst xs, .int i => atI xs i
 | .scr xs, .int i => atI xs i
 | .tup xs, .int i => atI xs i
 | .str z, .int i => if z.length ≤ sizeLine then (atI z.cps.toList i).map fun c => .str ⟨#[c]⟩ else none
 | _, _ => none
theorem om {K : PySem.W.Frag} {cl : String → Option Addr} {I : Hp} {xs : List D} {vs : List V} {i : Int} {d : D} (r : aI K cl I xs vs) (h : atI xs i = some d) : ∃ v, atI vs i = some v ∧ Rep K cl I d v := by
 unfold atI at h ⊢
 rw [← r.length]
 cases e : ixN xs.length i with
 | none => rw [e] at h; cases h
 | some j =>
  rw [e] at h
  exact r.get (show xs[j]? = some d from h)
theorem AX : cx Z (rIx Z.K) dIx := by
 intro I H x y z vx vy Q s rx ry h k
 unfold dIx at h
 split at h
 ·obtain ⟨a, vs, rfl, h1, h2⟩ := rx.lst s
  cases ry.int
  obtain ⟨v, h3, h4⟩ := om h2 h
  exact .inl ⟨a, vs, _, v, rfl, rfl, SqL.of h1, h3, k _ h4⟩
 ·obtain ⟨a, vs, rfl, h1, h2⟩ := rx.scr s
  cases ry.int
  obtain ⟨v, h3, h4⟩ := om h2 h
  exact .inl ⟨a, vs, _, v, rfl, rfl, h1, h3, k _ h4⟩
 ·obtain ⟨a, vs, rfl, h1, h2⟩ := rx.tup s
  cases ry.int
  obtain ⟨v, h3, h4⟩ := om h2 h
  exact .inr (.inl ⟨a, vs, _, v, rfl, rfl, h1, h3, k _ h4⟩)
 ·rename_i zz i
  split at h
  ·rename_i hl
   cases rx.str; cases ry.int
   cases e : atI zz.cps.toList i with
   | none => rw [e] at h; cases h
   | some c => rw [e] at h; cases h; exact .inr (.inr ⟨_, _, c, rfl, rfl, hl, e, k _ .str⟩)
  ·cases h
 ·cases h
theorem AI {X : Cx} (h : InF Z X) : IxR X (rIx Z.K) := by
 rw [← h.K]
 exact ix_seq
theorem bq {a b : Expr} {ma mb : ML} {pos : Pos} (ha : LV Z a ma) (hb : LV Z b mb) (hs : PlainIx b := by exact fun _ _ => rfl) : EV Z (.Subscript a b pos) (ae dIx ma mb) := by
 obtain ⟨ta, a1, a2⟩ := ha
 obtain ⟨tb, b1, b2⟩ := hb
 exact ⟨_, fun X h => pe_ix (AI h) (a1 X h) (b1 X h) hs, nJ AX a2 b2⟩
end
end Q
namespace Q
open PySem L2
section
variable {Z : Zc}
def fb (a b : MT) : MT := fun env => (a env).bind fun p => if p.1 then b p.2 else some (false, p.2)
def mOr (a b : MT) : MT := fun env => (a env).bind fun p => if p.1 then some (true, p.2) else b p.2
def gD (a : MT) : MT := fun env => (a env).map fun p => (!p.1, p.2)
def WV (Z : Zc) (e : Expr) (m : MT) : Prop := ∃ t, (∀ X, InF Z X → PW X e t) ∧ ST Z t m
theorem WV.tv {e : Expr} {m : MT} (h : WV Z e m) : TV Z e m := let ⟨t, h1, h2⟩ := h; ⟨t, fun X i => (h1 X i).pt, h2⟩
theorem jG {a : Expr} {m : MT} {pos : Pos} (h : TV Z a m) : WV Z (.BoolOp .And [a] pos) m := let ⟨t, h1, h2⟩ := h; ⟨t, fun X i => pw_and1 (h1 X i), h2⟩
theorem iX {a : Expr} {m : MT} {pos : Pos} (h : TV Z a m) : WV Z (.BoolOp .Or [a] pos) m := let ⟨t, h1, h2⟩ := h; ⟨t, fun X i => pw_or1 (h1 X i), h2⟩
theorem zr {ta tb : TT} {ma mb : MT} (ha : ST Z ta ma) (hb : ST Z tb mb) : ST Z (tAnd ta tb) (fb ma mb) := by
 intro g env σ I H Q c env' R hm k
 unfold fb at hm
 cases e : ma env with
 | none => rw [e] at hm; cases hm
 | some p =>
  obtain ⟨b, e1⟩ := p
  rw [e] at hm
  simp only [Option.bind_some] at hm
  refine ha g env σ I H _ b e1 R e fun I1 H1 R1 s1 => ?_
  cases b with
  | true => exact hb g e1 σ I1 H1 Q c env' R1 hm fun I2 H2 R2 s2 => k I2 H2 R2 (s1.trans s2)
  | false => cases hm; exact k I1 H1 R1 s1
theorem Bq {ta tb : TT} {ma mb : MT} (ha : ST Z ta ma) (hb : ST Z tb mb) : ST Z (tOr ta tb) (mOr ma mb) := by
 intro g env σ I H Q c env' R hm k
 unfold mOr at hm
 cases e : ma env with
 | none => rw [e] at hm; cases hm
 | some p =>
  obtain ⟨b, e1⟩ := p
  rw [e] at hm
  simp only [Option.bind_some] at hm
  refine ha g env σ I H _ b e1 R e fun I1 H1 R1 s1 => ?_
  cases b with
  | false => exact hb g e1 σ I1 H1 Q c env' R1 hm fun I2 H2 R2 s2 => k I2 H2 R2 (s1.trans s2)
  | true => cases hm; exact k I1 H1 R1 s1
theorem kl {a b : Expr} {r : List Expr} {ma mb : MT} {pos : Pos} (ha : TV Z a ma) (hb : WV Z (.BoolOp .And (b :: r) pos) mb) : WV Z (.BoolOp .And (a :: b :: r) pos) (fb ma mb) := by
 obtain ⟨ta, a1, a2⟩ := ha
 obtain ⟨tb, b1, b2⟩ := hb
 exact ⟨_, fun X h => pw_and (a1 X h) (b1 X h), zr a2 b2⟩
theorem fQ {a b : Expr} {r : List Expr} {ma mb : MT} {pos : Pos} (ha : TV Z a ma) (hb : WV Z (.BoolOp .Or (b :: r) pos) mb) : WV Z (.BoolOp .Or (a :: b :: r) pos) (mOr ma mb) := by
 obtain ⟨ta, a1, a2⟩ := ha
 obtain ⟨tb, b1, b2⟩ := hb
 exact ⟨_, fun X h => pw_or (a1 X h) (b1 X h), Bq a2 b2⟩
theorem ny {a : Expr} {ma : MT} {pos : Pos} (ha : TV Z a ma) : TV Z (.UnaryOp .Not a pos) (gD ma) := by
 obtain ⟨ta, a1, a2⟩ := ha
 refine ⟨_, fun X h => pt_not (a1 X h), fun g env σ I H Q c env' R hm k => ?_⟩
 unfold gD at hm
 cases e : ma env with
 | none => rw [e] at hm; cases hm
 | some p =>
  rw [e] at hm; cases hm
  exact a2 g env σ I H _ p.1 p.2 R e fun I1 H1 R1 s1 => k I1 H1 R1 s1
def oZ (a b : ME) : ME := fun env => (aq a env).bind fun p => if p.1 then b p.2 else some (.bl false, p.2)
def BQ (a b : ME) : ME := fun env => (aq a env).bind fun p => if p.1 then some (.bl true, p.2) else b p.2
def Aq (a : ME) : ME := fun env => (aq a env).map fun p => (.bl (!p.1), p.2)
theorem zF {a : Expr} {op} {m : ME} {pos : Pos} (h : EV Z a m) : EV Z (.BoolOp op [a] pos) m := let ⟨t, h1, h2⟩ := h; ⟨t, fun X i => pe_one (h1 X i), h2⟩
theorem yq {a b : Expr} {r : List Expr} {ma mb : ME} {pos : Pos} (ha : EV Z a ma) (hb : EV Z (.BoolOp .And (b :: r) pos) mb) : EV Z (.BoolOp .And (a :: b :: r) pos) (oZ ma mb) := by
 obtain ⟨ta, a1, a2⟩ := ha
 obtain ⟨tb, b1, b2⟩ := hb
 refine ⟨_, fun X h => pe_and (a1 X h) (b1 X h), fun g env σ I H Q c env' R hm k => ?_⟩
 unfold oZ at hm
 cases e : aq ma env with
 | none => rw [e] at hm; cases hm
 | some p =>
  obtain ⟨b, e1⟩ := p
  rw [e] at hm
  simp only [Option.bind_some] at hm
  refine a2 g env σ I H _ _ e1 R (kW e) fun v I1 H1 R1 s1 r1 => ⟨b, r1.bl_inv, ?_⟩
  cases b with
  | true => exact b2 g e1 σ I1 H1 Q c env' R1 hm fun v I2 H2 R2 s2 => k v I2 H2 R2 (s1.trans s2)
  | false => cases hm; exact k _ I1 H1 R1 s1 .bl
def mIf (c : MT) (a b : ME) : ME := fun env => (c env).bind fun p => if p.1 then a p.2 else b p.2
theorem l7 {c a b : Expr} {mc : MT} {ma mb : ME} {pos : Pos} (hc : TV Z c mc) (ha : EV Z a ma) (hb : EV Z b mb) : EV Z (.IfExp c a b pos) (mIf mc ma mb) := by
 obtain ⟨tc, c1, c2⟩ := hc
 obtain ⟨ta, a1, a2⟩ := ha
 obtain ⟨tb, b1, b2⟩ := hb
 refine ⟨_, fun X h => pe_ifExp (c1 X h) (a1 X h) (b1 X h), fun g env σ I H Q d env' R hm k => ?_⟩
 unfold mIf at hm
 cases e : mc env with
 | none => rw [e] at hm; cases hm
 | some p =>
  obtain ⟨b, e1⟩ := p
  rw [e] at hm
  simp only [Option.bind_some] at hm
  refine c2 g env σ I H _ b e1 R e fun I1 H1 R1 s1 => ?_
  cases b with
  | true => exact a2 g e1 σ I1 H1 Q d env' R1 hm fun v I2 H2 R2 s2 => k v I2 H2 R2 (s1.trans s2)
  | false => exact b2 g e1 σ I1 H1 Q d env' R1 hm fun v I2 H2 R2 s2 => k v I2 H2 R2 (s1.trans s2)
def dR : D → Option Bool
 | .non => some false
 | .bl b => some b
 | .int i => some (i != 0)
 | .str y => if y.length ≤ sizeLine then some ((y.length : Int) != 0) else none
 | .lst xs => some (!xs.isEmpty)
 | .scr xs => some (!xs.isEmpty)
 | .tup xs => some (!xs.isEmpty)
 | _ => none
theorem aI.emp {K : PySem.W.Frag} {cl : String → Option Addr} {I : Hp} {xs : List D} {vs : List V} (r : aI K cl I xs vs) : xs.isEmpty = vs.isEmpty := by
 cases r <;> rfl
theorem sF {I H : Hp} (s : Same I H) {d : D} {b : Bool} {v : V} (h : dR d = some b) (r : Rb Z I H d v) : TruV Z.K v H b := by
 cases d with
 | non => cases h; cases r.non; rfl
 | bl => cases h; cases r.bl; rfl
 | int => cases h; cases r.int; rfl
 | str y =>
  simp only [dR] at h
  split at h
  ·rename_i hl; cases h; cases r.str; exact ⟨hl, rfl⟩
  ·cases h
 | lst xs => cases h; obtain ⟨a, vs, rfl, h1, h2⟩ := r.lst s; exact .inl ⟨vs, SqL.of h1, by rw [h2.emp]⟩
 | scr xs => cases h; obtain ⟨a, vs, rfl, h1, h2⟩ := r.scr s; exact .inl ⟨vs, h1, by rw [h2.emp]⟩
 | tup xs => cases h; obtain ⟨a, vs, rfl, h1, h2⟩ := r.tup s; exact .inr (.inl ⟨vs, h1, by rw [h2.emp]⟩)
 | dic => cases h
 | obj => cases h
 | dcn => cases h
 | typ => cases h
 | adr => cases h
def bZ (m : ML) : MT := fun env => (m env).bind fun p => (p.1.get p.2).bind fun d => (dR d).map fun b => (b, p.2)
theorem dJ {e : Expr} {m : ML} (h : LV Z e m) (he : ∀ (env : Env) whole, isTrue e env whole = (do let v ← whole; standAt e.pos; holding [v] (truthy v)) := by intro _ _; rfl) : TV Z e (bZ m) := by
 obtain ⟨t, h1, h2⟩ := h
 refine ⟨fun σ H Q => t σ H fun x H1 => ∃ k, TruV Z.K x H1 k ∧ Q k H1, fun X i => ?_, fun g env σ I H Q c env' R hm k => ?_⟩
 ·have q := pt_truth (X := X) (h1 X i) (he _)
  rw [i.K] at q
  exact q
 ·unfold bZ at hm
  cases e1 : m env with
  | none => rw [e1] at hm; cases hm
  | some p =>
   obtain ⟨l, en⟩ := p
   rw [e1] at hm
   simp only [Option.bind_some] at hm
   cases e2 : l.get en with
   | none => rw [e2] at hm; cases hm
   | some d =>
    rw [e2] at hm
    simp only [Option.bind_some] at hm
    cases e3 : dR d with
    | none => rw [e3] at hm; cases hm
    | some b =>
     rw [e3] at hm
     cases hm
     exact h2 g env σ I H _ l env' R e1 fun v I' H' R' s o => ⟨_, sF R'.sub e3 (Ls.rb R' o e2), k I' H' R' s⟩
def iR (f f' : D → D → Option D) (a b c : ML) : ME := fun env => (a env).bind fun p => (b p.2).bind fun q => (p.1.get q.2).bind fun x => (q.1.get q.2).bind fun y => (f x y).bind fun z => match z with
 | .bl true => (c q.2).bind fun r => (q.1.get r.2).bind fun y => (r.1.get r.2).bind fun w => (f' y w).map fun z => (z, r.2)
 | .bl false => some (.bl false, q.2)
 | _ => none
theorem vn {r r' : R2} {f f' : D → D → Option D} {ta tb tc : TE} {ma mb mc : ML} (hr : cx Z r f) (hr' : cx Z r' f') (ha : SL Z ta ma) (hb : SL Z tb mb) (hc : SL Z tc mc) : SE Z (tChain r r' ta tb tc) (iR f f' ma mb mc) := by
 intro g env σ I H Q d env' R hm k
 unfold iR at hm
 cases h1 : ma env with
 | none => rw [h1] at hm; cases hm
 | some p =>
  obtain ⟨la, e1⟩ := p
  rw [h1] at hm; simp only [Option.bind_some] at hm
  cases h2 : mb e1 with
  | none => rw [h2] at hm; cases hm
  | some p =>
   obtain ⟨lb, e2⟩ := p
   rw [h2] at hm; simp only [Option.bind_some] at hm
   cases h3 : la.get e2 with
   | none => rw [h3] at hm; cases hm
   | some x =>
    rw [h3] at hm; simp only [Option.bind_some] at hm
    cases h4 : lb.get e2 with
    | none => rw [h4] at hm; cases hm
    | some y =>
     rw [h4] at hm; simp only [Option.bind_some] at hm
     cases h5 : f x y with
     | none => rw [h5] at hm; cases hm
     | some z =>
      rw [h5] at hm; simp only [Option.bind_some] at hm
      refine ha g env σ I H _ la e1 R h1 fun vx I1 H1 R1 s1 o1 => ?_
      refine hb g e1 σ I1 H1 _ lb e2 R1 h2 fun vy I2 H2 R2 s2 o2 => ?_
      refine hr I2 H2 x y z vx vy _ R2.sub (Ls.rb R2 (o1.mono s2) h3) (Ls.rb R2 o2 h4) h5 fun vz rz => ?_
      split at hm
      ·refine ⟨true, rz.bl_inv, ?_⟩
       show tc σ H2 _
       cases h6 : mc e2 with
       | none => rw [h6] at hm; cases hm
       | some p =>
        obtain ⟨lc, e3⟩ := p
        rw [h6] at hm; simp only [Option.bind_some] at hm
        cases h7 : lb.get e3 with
        | none => rw [h7] at hm; cases hm
        | some y' =>
         rw [h7] at hm; simp only [Option.bind_some] at hm
         cases h8 : lc.get e3 with
         | none => rw [h8] at hm; cases hm
         | some w =>
          rw [h8] at hm; simp only [Option.bind_some] at hm
          cases h9 : f' y' w with
          | none => rw [h9] at hm; cases hm
          | some u =>
           rw [h9] at hm; cases hm
           refine hc g e2 σ I2 H2 _ lc env' R2 h6 fun vw I3 H3 R3 s3 o3 => ?_
           exact hr' I3 H3 y' w d vy vw Q R3.sub (Ls.rb R3 (o2.mono s3) h7) (Ls.rb R3 o3 h8) h9 fun vz rz => k vz I3 H3 R3 ((s1.trans s2).trans s3) rz
      ·cases hm
       refine ⟨false, rz.bl_inv, ?_⟩
       show Q (.bl false) H2
       exact k _ I2 H2 R2 (s1.trans s2) .bl
      ·cases hm
theorem uN {op op' : CmpOp} {r r' : R2} {f f' : D → D → Option D} {a b c : Expr} {ma mb mc : ML} {pos : Pos} (ho : ∀ X, InF Z X → OpR X (compareOp op) r) (ho' : ∀ X, InF Z X → OpR X (compareOp op') r') (hr : cx Z r f) (hr' : cx Z r' f')
  (ha : LV Z a ma) (hb : LV Z b mb) (hc : LV Z c mc) (hm : lastMarks [op, op'] [b, c] = false := by with_unfolding_all rfl) : TV Z (.Compare a [op, op'] [b, c] pos) (aq (iR f f' ma mb mc)) := by
 obtain ⟨ta, a1, a2⟩ := ha
 obtain ⟨tb, b1, b2⟩ := hb
 obtain ⟨tc, c1, c2⟩ := hc
 refine ⟨_, fun X h => pt_chain (ho X h) (ho' X h) (a1 X h) (b1 X h) (c1 X h) hm, fun g env σ I H Q c env' R hm k => ?_⟩
 exact vn hr hr' a2 b2 c2 g env σ I H _ _ env' R (kW hm) fun v I' H' R' s rv => ⟨c, rv.bl_inv, k I' H' R' s⟩
end
end Q
namespace Q
open PySem L2
section
variable {Z : Zc}
def SA (Z : Zc) (t : TA) (m : En → Option (List D × En)) : Prop := ∀ (g : G) (env : En) (σ : St) (I H : Hp) (Q : List V → Hp → Prop) (ds : List D) (env' : En), SR Z.K Z.cl g env σ I H → m env = some (ds, env') →
 (∀ vs I' H', SR Z.K Z.cl g env' σ I' H' → Same I I' → aI Z.K Z.cl I' ds vs → Q vs H') → t σ H Q
def AE (Z : Zc) (es : List Expr) (m : En → Option (List D × En)) : Prop := ∃ t, (∀ X, InF Z X → PA X es t) ∧ SA Z t m
def aN : En → Option (List D × En) := fun env => some ([], env)
def aj (a : ME) (r : En → Option (List D × En)) : En → Option (List D × En) := fun env => (a env).bind fun p => (r p.2).map fun q => (p.1 :: q.1, q.2)
theorem bE : AE Z [] aN := ⟨tNil, fun _ _ => pa_nil, fun g env σ I H Q ds env' R hm k => by cases hm; exact k [] I H R (Same.refl _) .nil⟩
theorem az {e : Expr} {es : List Expr} {m : ME} {r : En → Option (List D × En)} (h : EV Z e m) (hr : AE Z es r) (hs : ∀ env, starEach (e :: es) env = (false, eval e env) :: starEach es env := by intro _; rfl) : AE Z (e :: es) (aj m r) := by
 obtain ⟨t, h1, h2⟩ := h
 obtain ⟨u, r1, r2⟩ := hr
 refine ⟨_, fun X i => pa_cons (h1 X i) (r1 X i) (hs _), fun g env σ I H Q ds env' R hm k => ?_⟩
 unfold aj at hm
 cases e1 : m env with
 | none => rw [e1] at hm; cases hm
 | some p =>
  rw [e1] at hm
  simp only [Option.bind_some] at hm
  cases e2 : r p.2 with
  | none => rw [e2] at hm; cases hm
  | some q =>
   rw [e2] at hm; cases hm
   refine h2 g env σ I H _ p.1 p.2 R e1 fun v I1 H1 R1 s1 rv => ?_
   exact r2 g p.2 σ I1 H1 _ q.1 q.2 R1 e2 fun vs I2 H2 R2 s2 rs => k (v :: vs) I2 H2 R2 (s1.trans s2) (.cons (rv.mono s2) rs)
def b8 (a : En → Option (List D × En)) : ME := fun env => (a env).bind fun p => if p.1.length ≤ sizeLine then some (.lst p.1, p.2) else none
def cN (a : En → Option (List D × En)) : ME := fun env => (a env).bind fun p => if p.1.length ≤ sizeLine then some (.tup p.1, p.2) else none
theorem dG {es : List Expr} {m : En → Option (List D × En)} {pos : Pos} (h : AE Z es m) : EF Z (.List es pos) (b8 m) := by
 obtain ⟨t, h1, h2⟩ := h
 refine ⟨_, fun X i => pe_lst (h1 X i), fun g env σ I H Q d env' R hm k => ?_⟩
 unfold b8 at hm
 cases e1 : m env with
 | none => rw [e1] at hm; cases hm
 | some p =>
  rw [e1] at hm
  simp only [Option.bind_some] at hm
  split at hm
  ·rename_i hl
   cases hm
   exact h2 g env σ I H _ p.1 p.2 R e1 fun vs I1 H1 R1 s1 rs => ⟨by rw [← rs.length]; exact hl, fun q hq => k q _ I1 _ (R1.alloc hq _) s1 (R1.new hq) (.lst rs)⟩
  ·cases hm
theorem ey {es : List Expr} {m : En → Option (List D × En)} {k : Nat} {pos : Pos} (h : AE Z es m) : EV Z (.Tuple es k pos) (cN m) := by
 obtain ⟨t, h1, h2⟩ := h
 refine ⟨_, fun X i => pe_tup (h1 X i), fun g env σ I H Q d env' R hm k => ?_⟩
 unfold cN at hm
 cases e1 : m env with
 | none => rw [e1] at hm; cases hm
 | some p =>
  rw [e1] at hm
  simp only [Option.bind_some] at hm
  split at hm
  ·rename_i hl
   cases hm
   refine h2 g env σ I H _ p.1 p.2 R e1 fun vs I1 H1 R1 s1 rs => ⟨by rw [← rs.length]; exact hl, fun q hq => ?_⟩
   obtain ⟨R2, s2⟩ := (R1.alloc hq _).freeze (R1.new (o := .tup vs) hq)
   exact k _ _ _ R2 (s1.trans s2) (.tup (SqT.of upd_same) (rs.mono s2))
  ·cases hm
inductive Rbs (Z : Zc) (I H : Hp) : List D → List V → Prop
 | nil : Rbs Z I H [] []
 | cons {d v ds vs} : Rb Z I H d v → Rbs Z I H ds vs → Rbs Z I H (d :: ds) (v :: vs)
def fO : List Ls → En → Option (List D)
 | [], _ => some []
 | l :: ls, env => (l.get env).bind fun d => (fO ls env).map fun ds => d :: ds
inductive nH (Z : Zc) (I : Hp) (σ : St) : List Ls → List V → Prop
 | nil : nH Z I σ [] []
 | cons {l v ls vs} : LsOk Z I σ l v → nH Z I σ ls vs → nH Z I σ (l :: ls) (v :: vs)
theorem lx {g : G} {env : En} {σ : St} {I H : Hp} (R : SR Z.K Z.cl g env σ I H) : ∀ {ls : List Ls} {vs : List V} {ds : List D}, nH Z I σ ls vs → fO ls env = some ds → Rbs Z I H ds vs
 | [], _, ds, .nil, h => by cases h; exact .nil
 | l :: ls, v :: vs, ds, .cons o os, h => by
  unfold fO at h
  cases e : l.get env with
  | none => rw [e] at h; cases h
  | some d =>
   rw [e] at h
   cases e2 : fO ls env with
   | none => rw [e2] at h; cases h
   | some es => rw [e2] at h; cases h; exact .cons (Ls.rb R o e) (lx R os e2)
def SB (Z : Zc) (t : TA) (m : En → Option (List Ls × En)) : Prop := ∀ (g : G) (env : En) (σ : St) (I H : Hp) (Q : List V → Hp → Prop) (ls : List Ls) (env' : En), SR Z.K Z.cl g env σ I H → m env = some (ls, env') →
 (∀ vs I' H', SR Z.K Z.cl g env' σ I' H' → Same I I' → nH Z I' σ ls vs → Q vs H') → t σ H Q
def AL (Z : Zc) (es : List Expr) (m : En → Option (List Ls × En)) : Prop := ∃ t, (∀ X, InF Z X → PA X es t) ∧ SB Z t m
def aY : En → Option (List Ls × En) := fun env => some ([], env)
def aM (a : ML) (r : En → Option (List Ls × En)) : En → Option (List Ls × En) := fun env => (a env).bind fun p => (r p.2).map fun q => (p.1 :: q.1, q.2)
theorem bV : AL Z [] aY := ⟨tNil, fun _ _ => pa_nil, fun g env σ I H Q ds env' R hm k => by cases hm; exact k [] I H R (Same.refl _) .nil⟩
theorem bJ {e : Expr} {es : List Expr} {m : ML} {r : En → Option (List Ls × En)} (h : LV Z e m) (hr : AL Z es r) (hs : ∀ env, starEach (e :: es) env = (false, eval e env) :: starEach es env := by intro _; rfl) : AL Z (e :: es) (aM m r) := by
 obtain ⟨t, h1, h2⟩ := h
 obtain ⟨u, r1, r2⟩ := hr
 refine ⟨_, fun X i => pa_cons (h1 X i) (r1 X i) (hs _), fun g env σ I H Q ds env' R hm k => ?_⟩
 unfold aM at hm
 cases e1 : m env with
 | none => rw [e1] at hm; cases hm
 | some p =>
  rw [e1] at hm
  simp only [Option.bind_some] at hm
  cases e2 : r p.2 with
  | none => rw [e2] at hm; cases hm
  | some q =>
   rw [e2] at hm; cases hm
   refine h2 g env σ I H _ p.1 p.2 R e1 fun v I1 H1 R1 s1 rv => ?_
   exact r2 g p.2 σ I1 H1 _ q.1 q.2 R1 e2 fun vs I2 H2 R2 s2 rs => k (v :: vs) I2 H2 R2 (s1.trans s2) (.cons (rv.mono s2) rs)
def i7 (Z : Zc) (r : List V → Hp → VK → Prop) (f : List D → Option D) : Prop := ∀ (I H : Hp) (xs : List D) (z : D) (vs : List V) (Q : VK), Same I H → Rbs Z I H xs vs → f xs = some z → (∀ vz, Rep Z.K Z.cl I z vz → Q vz H) → r vs H Q
def mBi (f : List D → Option D) (a : En → Option (List Ls × En)) : ME := fun env => (a env).bind fun p => (fO p.1 p.2).bind fun ds => (f ds).map fun z => (z, p.2)
theorem wt {f : List D → Option D} {a : En → Option (List Ls × En)} {env env' : En} {z : D} (h : mBi f a env = some (z, env')) : ∃ ls ds, a env = some (ls, env') ∧ fO ls env' = some ds ∧ f ds = some z := by
 unfold mBi at h
 cases e1 : a env with
 | none => rw [e1] at h; cases h
 | some p =>
  rw [e1] at h
  simp only [Option.bind_some] at h
  cases e2 : fO p.1 p.2 with
  | none => rw [e2] at h; cases h
  | some ds =>
   rw [e2] at h
   simp only [Option.bind_some] at h
   cases e3 : f ds with
   | none => rw [e3] at h; cases h
   | some w => rw [e3] at h; cases h; exact ⟨_, _, rfl, e2, e3⟩
theorem vS {r : List V → Hp → VK → Prop} {f : List D → Option D} {t : TA} {m : En → Option (List Ls × En)} (hr : i7 Z r f) (h : SB Z t m) : SE Z (tCB r t) (mBi f m) := by
 intro g env σ I H Q d env' R hm k
 obtain ⟨ls, ds, h1, h2, h3⟩ := wt hm
 exact h g env σ I H _ ls env' R h1 fun vs I1 H1 R1 s1 os => hr I1 H1 ds d vs Q R1.sub (lx R1 os h2) h3 fun vz rz => k vz I1 H1 R1 s1 rz
theorem cP {x : Str} {id : String} {r : List V → Hp → VK → Prop} {f : List D → Option D} {e : Expr} {es : List Expr} {m : En → Option (List Ls × En)} {p pos : Pos} (hc : ∀ X, InF Z X → CallR X (.builtin id) r) (hr : i7 Z r f) (hg : GlZ Z x) (hm : Z.mg x = none)
  (hv : bootBuiltins x = some (.builtin id)) (ha : AL Z (e :: es) m) (hn : x ≠ "__name__" := by decide) (hdb : (x == ("__debug__" : Str)) = false := by decide)
  (he : ∀ env, starEach (e :: es) env = (false, eval e env) :: starEach es env := by intro _; rfl) (hpl : ∀ env, (backTo pos (starEach es env)).any (·.1) = false := by intro _; rfl) : EV Z (.Call (.Name x p) (e :: es) [] pos) (mBi f m) := by
 obtain ⟨t, h1, h2⟩ := ha
 exact ⟨_, fun X h => pe_callB (hc X h) (eL h hg) (by rw [h.mg]; exact hm) hv (h1 X h) hn hdb (he _) (hpl _), vS hr h2⟩
theorem cH {x : Str} {T : String} {r : List V → Hp → VK → Prop} {f : List D → Option D} {e : Expr} {es : List Expr} {m : En → Option (List Ls × En)} {p pos : Pos} (hc : ∀ X, InF Z X → CallR X (.type T) r) (hr : i7 Z r f) (hg : GlZ Z x) (hm : Z.mg x = none)
  (hv : bootBuiltins x = some (.type T)) (ha : AL Z (e :: es) m) (hn : x ≠ "__name__" := by decide) (hdb : (x == ("__debug__" : Str)) = false := by decide)
  (he : ∀ env, starEach (e :: es) env = (false, eval e env) :: starEach es env := by intro _; rfl) (hpl : ∀ env, (backTo pos (starEach es env)).any (·.1) = false := by intro _; rfl) : EV Z (.Call (.Name x p) (e :: es) [] pos) (mBi f m) := by
 obtain ⟨t, h1, h2⟩ := ha
 exact ⟨_, fun X h => pe_callTy (hc X h) (eL h hg) (by rw [h.mg]; exact hm) hv (h1 X h) hn hdb (he _) (hpl _), vS hr h2⟩
def bT : List D → Option D
 | [.str y] => if y.length ≤ sizeLine then some (.int y.length) else none
 | [.lst xs] => some (.int xs.length)
 | [.scr xs] => some (.int xs.length)
 | [.tup xs] => some (.int xs.length)
 | [.dic ks _] => some (.int ks.length)
 | _ => none
theorem Rbs.one {I H : Hp} {d : D} {vs : List V} (h : Rbs Z I H [d] vs) : ∃ v, vs = [v] ∧ Rb Z I H d v := by
 cases h with
 | cons a b => cases b; exact ⟨_, rfl, a⟩
theorem Rbs.two {I H : Hp} {d e : D} {vs : List V} (h : Rbs Z I H [d, e] vs) : ∃ v u, vs = [v, u] ∧ Rb Z I H d v ∧ Rb Z I H e u := by
 cases h with
 | cons a b => cases b with | cons c d => cases d; exact ⟨_, _, rfl, a, c⟩
def si (K : PySem.W.Frag) : List V → Hp → VK → Prop := fun xs H Q => (∃ x n, xs = [x] ∧ LenV K x H n ∧ Q (.int n) H) ∨ ∃ (a : Addr) (kvs : List (Key × V)), xs = [.ref a] ∧ Rd H a (.dK kvs) ∧ Q (.int kvs.length) H
theorem dy {X : Cx} (h : InF Z X) : CallR X (.builtin "len") (si Z.K) := by
 rw [← h.K]
 intro pins s σ H xs us Q I r h
 rcases h with h | ⟨a, kvs, rfl, e, q⟩
 ·exact call_len pins s σ H xs us Q I r h
 ·obtain ⟨u, rfl, rx⟩ := vals1 r
  cases (show u = Value.ref a from rx)
  exact d_len I e fun t s' I' => ⟨.int kvs.length, H, I', ⟨t, rfl⟩, q⟩
theorem dC : i7 Z (si Z.K) bT := by
 intro I H xs z vs Q s rs h k
 unfold bT at h
 split at h
 ·split at h
  ·rename_i hl
   cases h
   obtain ⟨v, rfl, r⟩ := rs.one
   cases r.str
   exact .inl ⟨_, _, rfl, ⟨hl, rfl⟩, k _ .int⟩
  ·cases h
 ·cases h
  obtain ⟨v, rfl, r⟩ := rs.one
  obtain ⟨a, us, rfl, h1, h2⟩ := r.lst s
  exact .inl ⟨_, _, rfl, .inl ⟨us, SqL.of h1, rfl⟩, by rw [← h2.length]; exact k _ .int⟩
 ·cases h
  obtain ⟨v, rfl, r⟩ := rs.one
  obtain ⟨a, us, rfl, h1, h2⟩ := r.scr s
  exact .inl ⟨_, _, rfl, .inl ⟨us, h1, rfl⟩, by rw [← h2.length]; exact k _ .int⟩
 ·cases h
  obtain ⟨v, rfl, r⟩ := rs.one
  obtain ⟨a, us, rfl, h1, h2⟩ := r.tup s
  exact .inl ⟨_, _, rfl, .inr ⟨us, h1, rfl⟩, by rw [← h2.length]; exact k _ .int⟩
 ·cases h
  obtain ⟨v, rfl, r⟩ := rs.one
  obtain ⟨a, us, rfl, h1, h2, h3⟩ := r.dic s
  refine .inr ⟨a, _, rfl, h1, ?_⟩
  rw [List.length_zip, ← h2.length, ← h3, Nat.min_self]
  exact k _ .int
 ·cases h
def ir : List D → Option D
 | [.int i] => some (.int i)
 | [.bl b] => some (.int (if b then 1 else 0))
 | _ => none
def vC : List V → Hp → VK → Prop := fun xs H Q => (∃ i, xs = [.int i] ∧ Q (.int i) H) ∨ ∃ k, xs = [.bl k] ∧ Q (.int (if k then 1 else 0)) H
theorem lj : i7 Z vC ir := by
 intro I H xs z vs Q s rs h k
 unfold ir at h
 split at h
 ·cases h; obtain ⟨v, rfl, r⟩ := rs.one; cases r.int; exact .inl ⟨_, rfl, k _ .int⟩
 ·cases h; obtain ⟨v, rfl, r⟩ := rs.one; cases r.bl; exact .inr ⟨_, rfl, k _ .int⟩
 ·cases h
theorem lr {X : Cx} : CallR X (.type "int") vC := call_int1
def Du : List D → Option D
 | [.int i] => some (.int (if i < 0 then -i else i))
 | _ => none
def dList : List D → Option D
 | [x] => x.items?.map .lst
 | _ => none
def D.ty : D → Option String
 | .non => some "NoneType"
 | .bl _ => some "bool"
 | .int _ => some "int"
 | .str _ => some "str"
 | .lst _ => some "list"
 | .tup _ => some "tuple"
 | .dic _ _ => some "dict"
 | _ => none
def vd : List D → Option D
 | [x, .typ n] => x.ty.bind fun a => (kitB a n).map .bl
 | _ => none
theorem Bp {I H : Hp} (s : Same I H) {d : D} {a : String} {v : V} (h : d.ty = some a) (r : Rb Z I H d v) : TyX Z.K H v (.type a) := by
 cases d <;> simp only [D.ty] at h <;> first | cases h | skip
 ·cases r.non; exact .base .non
 ·cases r.bl; exact .base (.bl _)
 ·cases r.int; exact .base (.int _)
 ·cases r.str; exact .base (.str _)
 ·obtain ⟨a, us, rfl, h1, _⟩ := r.lst s; exact .base (.lst h1)
 ·obtain ⟨a, us, rfl, (h1 | ⟨o, h1⟩) | ⟨o, its, n, h1, h3, _⟩, _⟩ := r.tup s
  ·exact .base (.tup h1)
  ·exact .fTuple h1
  ·exact .kTuple h1 h3
 ·obtain ⟨a, us, rfl, h1 | ⟨o, h1⟩, _⟩ := r.dic s
  ·exact .base (.dK h1)
  ·exact .fDict h1
theorem y8 : i7 Z (rIsi Z.K) vd := by
 intro I H xs z vs Q s rs h k
 unfold vd at h
 split at h
 ·rename_i x n
  cases e1 : x.ty with
  | none => rw [e1] at h; cases h
  | some a =>
   rw [e1] at h
   simp only [Option.bind_some] at h
   cases e2 : kitB a n with
   | none => rw [e2] at h; cases h
   | some b =>
    rw [e2] at h; cases h
    obtain ⟨v, u, rfl, r1, r2⟩ := rs.two
    cases r2.typ
    exact ⟨v, _, _, _, b, rfl, .ty n, Bp s e1 r1, kit_ty e2, k _ .bl⟩
 ·cases h
end
end Q
namespace Q
open PySem L2
section
variable {Z : Zc}
def SO (Z : Zc) (t : TO) (m : En → Option (Option Int × En)) : Prop := ∀ (g : G) (env : En) (σ : St) (I H : Hp) (Q : Option Int → Hp → Prop) (o : Option Int) (env' : En), SR Z.K Z.cl g env σ I H → m env = some (o, env') →
 (∀ I' H', SR Z.K Z.cl g env' σ I' H' → Same I I' → Q o H') → t σ H Q
def OV (Z : Zc) (e : Option Expr) (m : En → Option (Option Int × En)) : Prop := ∃ t, (∀ X, InF Z X → PO X e t) ∧ SO Z t m
def cf : En → Option (Option Int × En) := fun env => some (none, env)
def b9 (a : ME) : En → Option (Option Int × En) := fun env => (a env).bind fun p => match p.1 with
 | .int i => some (some i, p.2)
 | _ => none
theorem dq : OV Z none cf := ⟨_, fun _ _ => po_none, fun g env σ I H Q o env' R hm k => by cases hm; exact k I H R (Same.refl _)⟩
theorem du {e : Expr} {m : ME} (h : EV Z e m) : OV Z (some e) (b9 m) := by
 obtain ⟨t, h1, h2⟩ := h
 refine ⟨_, fun X i => po_some (h1 X i), fun g env σ I H Q o env' R hm k => ?_⟩
 unfold b9 at hm
 cases e1 : m env with
 | none => rw [e1] at hm; cases hm
 | some p =>
  obtain ⟨d, en⟩ := p
  rw [e1] at hm
  simp only [Option.bind_some] at hm
  cases d <;> first | cases hm | skip
  exact h2 g env σ I H _ _ _ R e1 fun v I1 H1 R1 s1 rv => ⟨_, rv.int_inv, k I1 H1 R1 s1⟩
def mSl (f : D → Option Int → Option Int → Option D) (a : ML) (lo hi : En → Option (Option Int × En)) : ME := fun env => (a env).bind fun p => (lo p.2).bind fun q => (hi q.2).bind fun r => (p.1.get r.2).bind fun x => (f x q.1 r.1).map fun z => (z, r.2)
theorem qA {f : D → Option Int → Option Int → Option D} {a : ML} {lo hi : En → Option (Option Int × En)} {env env' : En} {z : D} (h : mSl f a lo hi env = some (z, env')) :
  ∃ la e1 l e2 u x, a env = some (la, e1) ∧ lo e1 = some (l, e2) ∧ hi e2 = some (u, env') ∧ la.get env' = some x ∧ f x l u = some z := by
 unfold mSl at h
 cases h1 : a env with
 | none => rw [h1] at h; cases h
 | some p =>
  rw [h1] at h; simp only [Option.bind_some] at h
  cases h2 : lo p.2 with
  | none => rw [h2] at h; cases h
  | some q =>
   rw [h2] at h; simp only [Option.bind_some] at h
   cases h3 : hi q.2 with
   | none => rw [h3] at h; cases h
   | some r =>
    rw [h3] at h; simp only [Option.bind_some] at h
    cases h4 : p.1.get r.2 with
    | none => rw [h4] at h; cases h
    | some x =>
     rw [h4] at h; simp only [Option.bind_some] at h
     cases h5 : f x q.1 r.1 with
     | none => rw [h5] at h; cases h
     | some w => rw [h5] at h; cases h; exact ⟨_, _, _, _, _, _, rfl, h2, h3, h4, h5⟩
def gm : D → Option Int → Option Int → Option D
 | .str z, lo, hi => if z.length ≤ sizeLine then some (.str (cutS z lo hi)) else none
 | _, _, _ => none
theorem jI {e : Expr} {lo hi : Option Expr} {m : ML} {ml mh : En → Option (Option Int × En)} {p2 pos : Pos} (h : LV Z e m) (hl : OV Z lo ml) (hh : OV Z hi mh) : EV Z (.Subscript e (.Slice lo hi none p2) pos) (mSl gm m ml mh) := by
 obtain ⟨t, h1, h2⟩ := h
 obtain ⟨tl, l1, l2⟩ := hl
 obtain ⟨tu, u1, u2⟩ := hh
 refine ⟨_, fun X i => pe_slice sl_str (h1 X i) (l1 X i) (u1 X i), fun g env σ I H Q d env' R hm k => ?_⟩
 obtain ⟨la, e1, l, e2, u, x, q1, q2, q3, q4, q5⟩ := qA hm
 refine h2 g env σ I H _ la e1 R q1 fun v I1 H1 R1 s1 o1 => l2 g e1 σ I1 H1 _ l e2 R1 q2 fun I2 H2 R2 s2 => u2 g e2 σ I2 H2 _ u env' R2 q3 fun I3 H3 R3 s3 => ?_
 have rb := Ls.rb R3 (o1.mono (s2.trans s3)) q4
 unfold gm at q5
 split at q5
 ·split at q5
  ·rename_i hz
   cases q5
   cases rb.str
   exact ⟨_, rfl, hz, k _ I3 H3 R3 ((s1.trans s2).trans s3) .str⟩
  ·cases q5
 ·cases q5
def cutD (xs : List D) (lo hi : Option Int) : List D := (xs.drop (HT.sIx xs.length 0 lo)).take (HT.sIx xs.length xs.length hi - HT.sIx xs.length 0 lo)
theorem aI.drop {K : PySem.W.Frag} {cl : String → Option Addr} {I : Hp} : ∀ {xs : List D} {vs : List V} (n : Nat), aI K cl I xs vs → aI K cl I (xs.drop n) (vs.drop n)
 | _, _, 0, r => r
 | _, _, n + 1, .nil => .nil
 | _, _, n + 1, .cons _ t => aI.drop n t
theorem aI.take {K : PySem.W.Frag} {cl : String → Option Addr} {I : Hp} : ∀ {xs : List D} {vs : List V} (n : Nat), aI K cl I xs vs → aI K cl I (xs.take n) (vs.take n)
 | _, _, 0, _ => .nil
 | _, _, n + 1, .nil => .nil
 | _, _, n + 1, .cons r t => .cons r (aI.take n t)
theorem aI.cut {K : PySem.W.Frag} {cl : String → Option Addr} {I : Hp} {xs : List D} {vs : List V} {lo hi : Option Int} (r : aI K cl I xs vs) : aI K cl I (cutD xs lo hi) (cutV vs lo hi) := by
 unfold cutD cutV
 rw [← r.length]
 exact (r.drop _).take _
def cq : D → Option Int → Option Int → Option D
 | .lst xs, lo, hi => some (.lst (cutD xs lo hi))
 | .scr xs, lo, hi => some (.lst (cutD xs lo hi))
 | _, _, _ => none
theorem gk {e : Expr} {lo hi : Option Expr} {m : ML} {ml mh : En → Option (Option Int × En)} {p2 pos : Pos} (h : LV Z e m) (hl : OV Z lo ml) (hh : OV Z hi mh) : EF Z (.Subscript e (.Slice lo hi none p2) pos) (mSl cq m ml mh) := by
 obtain ⟨t, h1, h2⟩ := h
 obtain ⟨tl, l1, l2⟩ := hl
 obtain ⟨tu, u1, u2⟩ := hh
 refine ⟨tSl (rSlL Z.K) t tl tu, fun X i => by have q := pe_slice (X := X) sl_list (h1 X i) (l1 X i) (u1 X i) (pos := pos) (p2 := p2); rw [i.K] at q; exact q, fun g env σ I H Q d env' R hm k => ?_⟩
 obtain ⟨la, e1, l, e2, u, x, q1, q2, q3, q4, q5⟩ := qA hm
 refine h2 g env σ I H _ la e1 R q1 fun v I1 H1 R1 s1 o1 => l2 g e1 σ I1 H1 _ l e2 R1 q2 fun I2 H2 R2 s2 => u2 g e2 σ I2 H2 _ u env' R2 q3 fun I3 H3 R3 s3 => ?_
 have rb := Ls.rb R3 (o1.mono (s2.trans s3)) q4
 unfold cq at q5
 split at q5
 ·cases q5
  obtain ⟨a, vs, rfl, ha, ra⟩ := rb.lst R3.sub
  exact ⟨a, vs, rfl, SqL.of ha, fun p hp => k p _ I3 _ (R3.alloc hp _) ((s1.trans s2).trans s3) (R3.new hp) (.lst ra.cut)⟩
 ·cases q5
  obtain ⟨a, vs, rfl, ha, ra⟩ := rb.scr R3.sub
  exact ⟨a, vs, rfl, ha, fun p hp => k p _ I3 _ (R3.alloc hp _) ((s1.trans s2).trans s3) (R3.new hp) (.lst ra.cut)⟩
 ·cases q5
def Bf (ks : List Str) (xs : List D) (f : Str) : Option D := (ks.zip xs).lookup f
def qh (c : String) (f : Str) : D → Option D
 | .obj c' ks xs => if c' = c then Bf ks xs f else none
 | _ => none
def Cp (c : String) (f : Str) (a : ML) : ME := fun env => (a env).bind fun p => (p.1.get p.2).bind fun x => (qh c f x).map fun z => (z, p.2)
def bC : MS := fun env => some (.nx env)
theorem bF : BV Z [] bC := ⟨_, fun _ _ => pss_nil, fun g env σ I H D fl R hm k => by cases hm; exact k σ I H R (Same.refl _)⟩
def aH (a b : MS) : MS := fun env => (a env).bind fun fl => match fl with
 | .nx e => b e
 | fl => some fl
theorem ax {s : Stmt} {r : List Stmt} {a b : MS} (ha : SV Z s a) (hb : BV Z r b) : BV Z (s :: r) (aH a b) := by
 obtain ⟨t, h1, h2⟩ := ha
 obtain ⟨u, r1, r2⟩ := hb
 refine ⟨_, fun X i => pss_cons (h1 X i) (r1 X i), fun g env σ I H D fl R hm k => ?_⟩
 unfold aH at hm
 cases e1 : a env with
 | none => rw [e1] at hm; cases hm
 | some f1 =>
  rw [e1] at hm
  simp only [Option.bind_some] at hm
  refine h2 g env σ I H _ f1 R e1 ?_
  cases f1 with
  | nx e => exact fun σ' I' H' R' s' => r2 g e σ' I' H' D fl R' hm (k.mono s')
  | bk e => cases hm; exact k
  | ct e => cases hm; exact k
  | ret md d e => cases hm; exact k
theorem aF {s : Stmt} {a : MS} (ha : SV Z s a) : BV Z [s] a := by
 obtain ⟨t, h1, h2⟩ := ha
 exact ⟨t, fun X i => pss_one (h1 X i), h2⟩
def zm : MS := fun env => some (.bk env)
def yy : MS := fun env => some (.ct env)
def vF (a : ME) : MS := fun env => (a env).map fun p => .nx p.2
def be (a : ME) : MS := fun env => (a env).map fun p => .ret .imm p.1 p.2
theorem aU {e : Expr} {m : ME} {pos : Pos} (h : EV Z e m) : SV Z (.Return (some e) pos) (be m) := by
 obtain ⟨t, h1, h2⟩ := h
 refine ⟨_, fun X i => ps_ret (h1 X i), fun g env σ I H D fl R hm k => ?_⟩
 unfold be at hm
 cases e1 : m env with
 | none => rw [e1] at hm; cases hm
 | some p => rw [e1] at hm; cases hm; exact h2 g env σ I H _ p.1 p.2 R e1 fun v I1 H1 R1 s1 rv => k σ I1 H1 v R1 s1 rv
def mZ (a : ME) : MS := fun env => (a env).map fun p => .ret .new p.1 p.2
theorem yc {e : Expr} {m : ME} {pos : Pos} (h : EF Z e m) : SV Z (.Return (some e) pos) (mZ m) := by
 obtain ⟨t, h1, h2⟩ := h
 refine ⟨_, fun X i => ps_ret (h1 X i), fun g env σ I H D fl R hm k => ?_⟩
 unfold mZ at hm
 cases e1 : m env with
 | none => rw [e1] at hm; cases hm
 | some p => rw [e1] at hm; cases hm; exact h2 g env σ I H _ p.1 p.2 R e1 fun q o I1 H1 R1 s1 n r => k σ I1 H1 _ R1 s1 ⟨q, o, rfl, n, r⟩
def jS (i : Nat) : MS := fun env => match env[i]? with
 | some (.own d) => some (.ret .new d (env.set i .un))
 | some (.imm d) => some (.ret .imm d env)
 | _ => none
theorem qr {i : Nat} {x : Str} {p pos : Pos} (hN : Z.N[i]? = some x) (hv : Vis Z.sc x) (hd : (x == ("__debug__" : Str)) = false := by decide) (hcd : (x == ("__classdict__" : Str)) = false := by decide) : SV Z (.Return (some (.Name x p)) pos) (jS i) := by
 refine ⟨tRet (tVar i), fun X h => ps_ret (pe_var (by rw [h.N]; exact hN) (fM h hv) hd hcd), fun g env σ I H D fl R hm k => ?_⟩
 unfold jS at hm
 split at hm
 ·rename_i d hs
  cases hm
  obtain ⟨y, hx, a, o, rfl, h1, h2, h3, h4⟩ := R.at_ i _ hs
  have R1 : SR Z.K Z.cl g (env.set i .un) σ I H := R.reslot (s' := .un) hs (fun _ _ _ => trivial) (fun z => by cases z) (fun z => by cases z)
  have n : New g (env.set i .un) σ I H a o := ⟨h1, h3, h4, fun j s hj ht => by
   rcases bW hj with ⟨rfl, _, rfl⟩ | ⟨ne, hj⟩
   ·cases ht
   ·exact fun z => R.dis i j _ s a (Ne.symm ne) hs hj rfl ht hx z, fun o' hX => (R.ex a o' hX).2.2 i _ hs rfl hx⟩
  exact ⟨.ref a, hx, k σ I H _ R1 (Same.refl _) ⟨a, o, rfl, n, h2⟩⟩
 ·rename_i d hs
  cases hm
  obtain ⟨y, hx, v, rfl, r⟩ := R.at_ i _ hs
  exact ⟨v, hx, k σ I H v R (Same.refl _) r⟩
 ·cases hm
def bx (c : MT) (a b : MS) : MS := fun env => (c env).bind fun p => if p.1 then a p.2 else b p.2
theorem bN {c : Expr} {a b : List Stmt} {mc : MT} {ma mb : MS} {pos : Pos} (hc : TV Z c mc) (ha : BV Z a ma) (hb : BV Z b mb) : SV Z (.If c a b pos) (bx mc ma mb) := by
 obtain ⟨tc, c1, c2⟩ := hc
 obtain ⟨ta, a1, a2⟩ := ha
 obtain ⟨tb, b1, b2⟩ := hb
 refine ⟨_, fun X h => ps_if (c1 X h) (a1 X h) (b1 X h), fun g env σ I H D fl R hm k => ?_⟩
 unfold bx at hm
 cases e : mc env with
 | none => rw [e] at hm; cases hm
 | some p =>
  obtain ⟨b, e1⟩ := p
  rw [e] at hm
  simp only [Option.bind_some] at hm
  refine c2 g env σ I H _ b e1 R e fun I1 H1 R1 s1 => ?_
  cases b with
  | true => exact a2 g e1 σ I1 H1 D fl R1 hm (k.mono s1)
  | false => exact b2 g e1 σ I1 H1 D fl R1 hm (k.mono s1)
def jo (Z : Zc) (x : Str) : Prop := (Z.all = true ∧ Loc Z.sc x) ∨ Z.sc.names.lookup x = some .local
theorem gX {X : Cx} {x : Str} (h : InF Z X) (hv : jo Z x) : Loc X.env.scope x ∧ (X.fn x = true ∨ X.env.scope.names.lookup x = some .local) := by
 rw [h.sc]
 rcases hv with ⟨h1, h2⟩ | h1
 ·exact ⟨h2, .inl (h.fn h1 x)⟩
 ·exact ⟨.inl h1, .inr h1⟩
def bL (i : Nat) (a : ME) : MS := fun env => (a env).bind fun p => if i < p.2.length then some (.nx (p.2.set i (.imm p.1))) else none
def d8 (i : Nat) (a : ME) : MS := fun env => (a env).bind fun p => if i < p.2.length then some (.nx (p.2.set i (.own p.1))) else none
theorem yL {i : Nat} {x : Str} {e : Expr} {m : ME} {p pos : Pos} (hN : Z.N[i]? = some x) (hv : jo Z x) (h : EV Z e m) (hs : ∀ env, swapsWithSole [.Name x p] e pos.line env = pure false := by intro _; rfl) (hw : ∀ env, swappedStores [.Name x p] e env = pure none := by intro _; rfl)
  (h1 : ∀ env, (assignEach [.Name x p] env).map (·.2) = [assign (.Name x p) env] := by intro _; rfl) : SV Z (.Assign [.Name x p] e pos) (bL i m) := by
 obtain ⟨t, q1, q2⟩ := h
 refine ⟨_, fun X k => ps_asg (q1 X k) (pg_name k.nd (by rw [k.N]; exact hN) (gX k hv).1 (gX k hv).2) (hs _) (hw _) (h1 _), fun g env σ I H D fl R hm k => ?_⟩
 unfold bL at hm
 cases e1 : m env with
 | none => rw [e1] at hm; cases hm
 | some r =>
  rw [e1] at hm
  simp only [Option.bind_some] at hm
  split at hm
  ·rename_i hi
   cases hm
   exact q2 g env σ I H _ r.1 r.2 R e1 fun v I1 H1 R1 s1 rv => k _ I1 H1 (R1.setImm (by rw [← R1.len]; exact hi) rv) s1
  ·cases hm
theorem wO {i : Nat} {x : Str} {e : Expr} {m : ME} {p pos : Pos} (hN : Z.N[i]? = some x) (hv : jo Z x) (h : EF Z e m) (hs : ∀ env, swapsWithSole [.Name x p] e pos.line env = pure false := by intro _; rfl) (hw : ∀ env, swappedStores [.Name x p] e env = pure none := by intro _; rfl)
  (h1 : ∀ env, (assignEach [.Name x p] env).map (·.2) = [assign (.Name x p) env] := by intro _; rfl) : SV Z (.Assign [.Name x p] e pos) (d8 i m) := by
 obtain ⟨t, q1, q2⟩ := h
 refine ⟨_, fun X k => ps_asg (q1 X k) (pg_name k.nd (by rw [k.N]; exact hN) (gX k hv).1 (gX k hv).2) (hs _) (hw _) (h1 _), fun g env σ I H D fl R hm k => ?_⟩
 unfold d8 at hm
 cases e1 : m env with
 | none => rw [e1] at hm; cases hm
 | some r =>
  rw [e1] at hm
  simp only [Option.bind_some] at hm
  split at hm
  ·rename_i hi
   cases hm
   exact q2 g env σ I H _ r.1 r.2 R e1 fun a o I1 H1 R1 s1 n ro => k _ I1 H1 (R1.setOwn (by rw [← R1.len]; exact hi) n ro) s1
  ·cases hm
def yM (f : Int → Int → Int) (i : Nat) (a : ME) : MS := fun env => match env[i]? with
 | some (.imm (.int x)) => (a env).bind fun p => match p.1 with
  | .int y => if i < p.2.length then some (.nx (p.2.set i (.imm (.int (f x y))))) else none
  | _ => none
 | _ => none
def c4 (env : En) (i : Nat) : Option (List D) := (env[i]?).bind fun s => (s.own?).bind fun d => match d with
 | .lst xs => some xs
 | _ => none
theorem uk {env : En} {i : Nat} {xs : List D} (h : c4 env i = some xs) : ∃ s, env[i]? = some s ∧ s.own? = some (.lst xs) := by
 unfold c4 at h
 cases e2 : env[i]? with
 | none => rw [e2] at h; cases h
 | some s =>
  rw [e2] at h; simp only [Option.bind_some] at h
  cases e3 : s.own? with
  | none => rw [e3] at h; cases h
  | some d =>
   rw [e3] at h; simp only [Option.bind_some] at h
   cases d <;> first | (cases h; exact ⟨s, rfl, e3⟩) | cases h
theorem gL {g : G} {env : En} {σ : St} {I H : Hp} {i : Nat} {xs : List D} (R : SR Z.K Z.cl g env σ I H) (h : c4 env i = some xs) :
  ∃ s a vs, env[i]? = some s ∧ s.own? = some (.lst xs) ∧ σ[i]? = some (some (.ref a)) ∧ H a = some (.lst vs) ∧ aI Z.K Z.cl I xs vs := by
 obtain ⟨s, h1, h2⟩ := uk h
 obtain ⟨a, o, h3, h4, h5, h6⟩ := jw R h1 h2
 obtain ⟨vs, rfl, r⟩ := h5.lst_inv
 exact ⟨s, a, vs, h1, h2, h3, h4, r⟩
def b7 (env : En) (i : Nat) (d : D) : En := match env[i]? with
 | some s => env.set i (s.put d)
 | none => env
def gJ (i : Nat) (a : ME) : MS := fun env => (c4 env i).bind fun _ => (a env).bind fun p => (c4 p.2 i).bind fun xs =>
 if xs.length < sizeLine then some (.nx (b7 p.2 i (.lst (xs ++ [p.1])))) else none
theorem AJ {g : G} {env : En} {σ : St} {I H : Hp} {i : Nat} {d : D} (R : SR Z.K Z.cl g env σ I H) (h : env[i]?.bind Sl.rd = some d) : ∃ v, σ[i]? = some (some v) := by
 cases e : env[i]? with
 | none => rw [e] at h; cases h
 | some s =>
  rw [e] at h
  obtain ⟨x, hx, q⟩ := R.at_ i _ e
  cases s with
  | un => cases h
  | imm d => obtain ⟨v, rfl, _⟩ := q; exact ⟨_, hx⟩
  | bor d => obtain ⟨v, rfl, _⟩ := q; exact ⟨_, hx⟩
  | own d => obtain ⟨v, o, rfl, _⟩ := q; exact ⟨_, hx⟩
  | lck d => obtain ⟨v, o, rfl, _⟩ := q; exact ⟨_, hx⟩
  | io j d => obtain ⟨v, o, rfl, _⟩ := q; exact ⟨_, hx⟩
theorem fZ {i : Nat} {x : Str} {e : Expr} {m : ME} {p p1 cpos pos : Pos} (hN : Z.N[i]? = some x) (hv : Vis Z.sc x) (h : EV Z e m) (hd : (x == ("__debug__" : Str)) = false := by decide) (hcd : (x == ("__classdict__" : Str)) = false := by decide)
  (hbase : ∀ env, attributeBase (.Name x p) "append" env (eval (.Name x p) env) = eval (.Name x p) env := by intro _; rfl)
  (hfew : ∀ env, ((backTo cpos (starEach [e] env)).all (fun x => !x.1) && (backToKw cpos (keywordEach [] env)).all (fun x => x.1.isSome)
   && decide (([e] : List Expr).length + ([] : List Keyword).length + (if ([] : List Keyword).isEmpty then 0 else 1) < 30)) = true := by intro _; rfl)
  (hline : (p1.endLine == cpos.line) = true := by rfl) (hs : ∀ env, starEach [e] env = (false, eval e env) :: starEach [] env := by intro _; rfl) (hplain : ∀ env, (backTo cpos (starEach [] env)).any (·.1) = false := by intro _; rfl)
  (hsw : ∀ env, swapsWith (.Call (.Attribute (.Name x p) "append" p1) [e] [] cpos) none pos.line env = pure false := by intro _; rfl) :
  SV Z (.Expr (.Call (.Attribute (.Name x p) "append" p1) [e] [] cpos) pos) (gJ i m) := by
 obtain ⟨t, q1, q2⟩ := h
 refine ⟨tDrop (tBM Z.K "list" rAppend (tVar i) (tCons t tNil)), fun X k => ?_, fun g env σ I H D fl R hm k => ?_⟩
 ·have q := pe_bm (X := X) (name := "append") (apos := p1) (cpos := cpos) PySem.F.plainAttrs_list PySem.F.slot_list_append PySem.F.type_list_append mt_append (pe_var (by rw [k.N]; exact hN) (fM k hv) hd hcd) (pa_cons (q1 X k) pa_nil (hs _)) (hbase _) (hfew _) hline (hs _) (hplain _)
  rw [k.K] at q
  exact ps_expr q (hsw _)
 ·unfold gJ at hm
  cases e0 : c4 env i with
  | none => rw [e0] at hm; cases hm
  | some d0 =>
   rw [e0] at hm; simp only [Option.bind_some] at hm
   cases e1 : m env with
   | none => rw [e1] at hm; cases hm
   | some r =>
    obtain ⟨y, en⟩ := r
    rw [e1] at hm; simp only [Option.bind_some] at hm
    cases e2 : c4 en i with
    | none => rw [e2] at hm; cases hm
    | some xs =>
     rw [e2] at hm; simp only [Option.bind_some] at hm
     split at hm
     ·rename_i hlen
      cases hm
      obtain ⟨s0, a0, vs0, h1, h2, h3, h4, _⟩ := gL R e0
      refine ⟨.ref a0, h3, .inl ⟨rfl, _, SqL.of h4⟩, ?_⟩
      refine q2 g env σ I H _ y en R e1 fun v I1 H1 R1 s1 rv => ?_
      obtain ⟨s, a, vs, h5, h6, h7, h8, h9⟩ := gL R1 e2
      rw [h3] at h7
      cases h7
      refine ⟨a0, vs, v, rfl, rfl, h8, by rw [← h9.length]; exact hlen, ?_⟩
      have R2 := R1.mutate h5 h6 h3 (.lst (h9.append (.cons rv .nil)))
      have e5 : b7 en i (.lst (xs ++ [y])) = en.set i (s.put (.lst (xs ++ [y]))) := by unfold b7; rw [h5]
      rw [e5] at k
      exact k σ I1 _ R2 s1
     ·cases hm
def nk (i : Nat) (e j : ME) : MS := fun env => (e env).bind fun p => (c4 p.2 i).bind fun _ => (j p.2).bind fun q => (c4 q.2 i).bind fun xs => match q.1 with
 | .int n => (ixN xs.length n).map fun c => .nx (b7 q.2 i (.lst (xs.set c p.1)))
 | _ => none
theorem wR {i : Nat} {x : Str} {e j : Expr} {me mj : ME} {p p1 pos : Pos} (hN : Z.N[i]? = some x) (hv : Vis Z.sc x) (he : EV Z e me) (hj : EV Z j mj) (hd : (x == ("__debug__" : Str)) = false := by decide) (hcd : (x == ("__classdict__" : Str)) = false := by decide)
  (hs : ∀ env, swapsWithSole [.Subscript (.Name x p) j p1] e pos.line env = pure false := by intro _; rfl) (hw : ∀ env, swappedStores [.Subscript (.Name x p) j p1] e env = pure none := by intro _; rfl)
  (h1 : ∀ env, (assignEach [.Subscript (.Name x p) j p1] env).map (·.2) = [assign (.Subscript (.Name x p) j p1) env] := by intro _; rfl)
  (ha : ∀ env v, assign (.Subscript (.Name x p) j p1) env v = (do
   let ov ← holding [v] (eval (.Name x p) env)
   let iv ← holding [v, ov] (eval j env)
   standAt p1
   holding [v, ov, iv] (setItem ov iv v)
   release [v, ov, iv] []) := by intro _ _; rfl) :
  SV Z (.Assign [.Subscript (.Name x p) j p1] e pos) (nk i me mj) := by
 obtain ⟨t, q1, q2⟩ := he
 obtain ⟨u, j1, j2⟩ := hj
 refine ⟨tAsg t (gSub (tVar i) u rSetL), fun X k => ps_asg (q1 X k) (pg_sub (pe_var (by rw [k.N]; exact hN) (fM k hv) hd hcd) (j1 X k) set_list (ha _)) (hs _) (hw _) (h1 _), fun g env σ I H D fl R hm k => ?_⟩
 unfold nk at hm
 cases e1 : me env with
 | none => rw [e1] at hm; cases hm
 | some r =>
  obtain ⟨y, en⟩ := r
  rw [e1] at hm; simp only [Option.bind_some] at hm
  cases e2 : c4 en i with
  | none => rw [e2] at hm; cases hm
  | some xs0 =>
   rw [e2] at hm; simp only [Option.bind_some] at hm
   cases e3 : mj en with
   | none => rw [e3] at hm; cases hm
   | some r =>
    obtain ⟨n, en2⟩ := r
    rw [e3] at hm; simp only [Option.bind_some] at hm
    cases e4 : c4 en2 i with
    | none => rw [e4] at hm; cases hm
    | some xs =>
     rw [e4] at hm; simp only [Option.bind_some] at hm
     cases n <;> first | cases hm | skip
     rename_i n
     dsimp only at hm
     cases e5 : ixN xs.length n with
     | none => rw [e5] at hm; cases hm
     | some c =>
      rw [e5] at hm; cases hm
      refine q2 g env σ I H _ y en R e1 fun v I1 H1 R1 s1 rv => ?_
      obtain ⟨s0, a0, vs0, h1, h2, h3, h4, _⟩ := gL R1 e2
      refine ⟨.ref a0, h3, ?_⟩
      refine j2 g en σ I1 H1 _ _ en2 R1 e3 fun w I2 H2 R2 s2 rw' => ?_
      obtain ⟨s, a, vs, h5, h6, h7, h8, h9⟩ := gL R2 e4
      rw [h3] at h7
      cases h7
      refine ⟨a0, vs, n, c, rfl, rw'.int_inv, h8, by rw [← h9.length]; exact e5, ?_⟩
      have R3 := R2.mutate h5 h6 h3 (.lst (aI.set c (rv.mono s2) h9))
      have e6 : b7 en2 i (.lst (xs.set c y)) = en2.set i (s.put (.lst (xs.set c y))) := by unfold b7; rw [h5]
      dsimp only at k
      rw [e6] at k
      exact k σ I2 _ R3 (s1.trans s2)
end
end Q
namespace Q
open PySem L2
section
variable {Z : Zc}
theorem iQ {σ : St} {i : Nat} {x : Option V} : ∀ {vs : List Nat}, i ∈ vs → wipe (σ.set i x) vs = wipe σ vs
 | [], h => by cases h
 | v :: vs, h => by
  show (wipe (σ.set i x) vs).set v none = (wipe σ vs).set v none
  by_cases e : i ∈ vs
  ·rw [iQ e]
  ·have : i = v := by
    rcases List.mem_cons.mp h with h | h
    ·exact h
    ·exact absurd h e
   subst this
   have c : ∀ (ws : List Nat) (τ : St), i ∉ ws → wipe (τ.set i x) ws = (wipe τ ws).set i x := by
    intro ws
    induction ws with
    | nil => intro τ _; rfl
    | cons w ws ih =>
     intro τ hw
     have h1 : i ≠ w := fun z => hw (by rw [z]; exact List.mem_cons_self)
     have h2 : i ∉ ws := fun z => hw (List.mem_cons_of_mem _ z)
     show (wipe (τ.set i x) ws).set w none = ((wipe τ ws).set w none).set i x
     rw [ih τ h2, List.set_comm _ _ h1]
   rw [c vs σ e, List.set_set]
def GV (Z : Zc) (tg : Expr) (ix : List Nat) (f : D → En → Option En) : Prop := ∃ gt, (∀ X, InF Z X → PG X tg gt) ∧ ∀ (g : G) (env : En) (σ : St) (I H : Hp) (d : D) (v : V) (Q : St → Hp → Prop) (env' : En), SR Z.K Z.cl g env σ I H → Rep Z.K Z.cl I d v → f d env = some env' →
 (∀ σ', SR Z.K Z.cl g env' σ' I H → (∀ vs, (∀ i ∈ ix, i ∈ vs) → wipe σ' vs = wipe σ vs) → Q σ' H) → gt v σ H Q
def gN (i : Nat) : D → En → Option En := fun d env => if i < env.length then some (env.set i (.imm d)) else none
theorem xt {i : Nat} {x : Str} {p : Pos} (hN : Z.N[i]? = some x) (hv : jo Z x) : GV Z (.Name x p) [i] (gN i) := by
 refine ⟨gName i, fun X k => pg_name k.nd (by rw [k.N]; exact hN) (gX k hv).1 (gX k hv).2, fun g env σ I H d v Q env' R r h k => ?_⟩
 unfold gN at h
 split at h
 ·rename_i hi
  cases h
  exact k _ (R.setImm (by rw [← R.len]; exact hi) r) fun vs hvs => iQ (hvs i (by simp))
 ·cases h
def GVs (Z : Zc) (tgs : List Expr) (ix : List Nat) (f : List D → En → Option En) : Prop := ∃ gt, (∀ X, InF Z X → PGs X tgs gt) ∧ ∀ (g : G) (env : En) (σ : St) (I H : Hp) (ds : List D) (vs : List V) (Q : St → Hp → Prop) (env' : En), SR Z.K Z.cl g env σ I H → aI Z.K Z.cl I ds vs → f ds env = some env' →
 (∀ σ', SR Z.K Z.cl g env' σ' I H → (∀ vs, (∀ i ∈ ix, i ∈ vs) → wipe σ' vs = wipe σ vs) → Q σ' H) → gt vs σ H Q
def dk : List D → En → Option En := fun ds env => match ds with
 | [] => some env
 | _ => none
def aT (f : D → En → Option En) (r : List D → En → Option En) : List D → En → Option En := fun ds env => match ds with
 | d :: ds => (f d env).bind fun e => r ds e
 | _ => none
theorem fx : GVs Z [] [] dk := by
 refine ⟨gNil, fun _ _ => pgs_nil, fun g env σ I H ds vs Q env' R r h k => ?_⟩
 unfold dk at h
 split at h
 ·cases h; cases r; exact ⟨rfl, k σ R fun _ _ => rfl⟩
 ·cases h
theorem bS {e : Expr} {es : List Expr} {i j : List Nat} {f : D → En → Option En} {r : List D → En → Option En} (h1 : GV Z e i f) (h2 : GVs Z es j r)
  (hs : ∀ env, (assignEach (e :: es) env).map (·.2) = assign e env :: (assignEach es env).map (·.2) := by intro _; rfl) : GVs Z (e :: es) (i ++ j) (aT f r) := by
 obtain ⟨t, a1, a2⟩ := h1
 obtain ⟨u, b1, b2⟩ := h2
 refine ⟨gCons t u, fun X k => pgs_cons (a1 X k) (b1 X k) (hs _), fun g env σ I H ds vs Q env' R rr h k => ?_⟩
 unfold aT at h
 split at h
 ·rename_i d ds
  cases rr with
  | cons r1 r2 =>
   cases e1 : f d env with
   | none => rw [e1] at h; cases h
   | some en =>
    rw [e1] at h
    simp only [Option.bind_some] at h
    refine ⟨_, _, rfl, a2 g env σ I H d _ _ en R r1 e1 fun σ1 R1 w1 => b2 g en σ1 I H ds _ Q env' R1 r2 h fun σ2 R2 w2 => k σ2 R2 fun ws hw => ?_⟩
    rw [w2 ws (fun q hq => hw q (List.mem_append_right _ hq)), w1 ws (fun q hq => hw q (List.mem_append_left _ hq))]
 ·cases h
def gT (n : Nat) (r : List D → En → Option En) : D → En → Option En := fun d env => match d with
 | .tup xs => if xs.length = n then r xs env else none
 | _ => none
theorem gw {es : List Expr} {k n : Nat} {p : Pos} {ix : List Nat} {r : List D → En → Option En} (h : GVs Z es ix r)
  (hn : ∀ env, (assignEach es env).length = n := by intro _; rfl) (hst : ∀ env, (assignEach es env).findIdx? (·.1) = none := by intro _; rfl) : GV Z (.Tuple es k p) ix (gT n r) := by
 obtain ⟨t, a1, a2⟩ := h
 refine ⟨gTup Z.K n t, fun X i => by have q := pg_tup (X := X) (k := k) (pos := p) i.calm (a1 X i) (hn _) (hst _); rw [i.K] at q; exact q, fun g env σ I H d v Q env' R rr h k => ?_⟩
 unfold gT at h
 split at h
 ·split at h
  ·rename_i hl
   obtain ⟨a, vs, rfl, h1, h2⟩ := rr.tup_inv
   exact ⟨a, vs, rfl, SqT.mono R.sub h1, by rw [← h2.length]; exact hl, a2 g env σ I H _ vs Q env' R h2 h k⟩
  ·cases h
 ·cases h
def gy (gf : D → En → Option En) (a : ME) : MS := fun env => (a env).bind fun p => (gf p.1 p.2).map .nx
theorem gO {tg e : Expr} {m : ME} {ix : List Nat} {gf : D → En → Option En} {pos : Pos} (hg : GV Z tg ix gf) (h : EV Z e m) (hs : ∀ env, swapsWithSole [tg] e pos.line env = pure false := by intro _; rfl) (hw : ∀ env, swappedStores [tg] e env = pure none := by intro _; rfl)
  (h1 : ∀ env, (assignEach [tg] env).map (·.2) = [assign tg env] := by intro _; rfl) : SV Z (.Assign [tg] e pos) (gy gf m) := by
 obtain ⟨t, q1, q2⟩ := h
 obtain ⟨u, g1, g2⟩ := hg
 refine ⟨_, fun X k => ps_asg (q1 X k) (g1 X k) (hs _) (hw _) (h1 _), fun g env σ I H D fl R hm k => ?_⟩
 unfold gy at hm
 cases e1 : m env with
 | none => rw [e1] at hm; cases hm
 | some r =>
  rw [e1] at hm
  simp only [Option.bind_some] at hm
  cases e2 : gf r.1 r.2 with
  | none => rw [e2] at hm; cases hm
  | some en =>
   rw [e2] at hm; cases hm
   exact q2 g env σ I H _ r.1 r.2 R e1 fun v I1 H1 R1 s1 rv => g2 g r.2 σ I1 H1 r.1 v _ en R1 rv e2 fun σ' R' _ => k σ' I1 H1 R' s1
def WD (Z : Zc) (J : It) (ds : List D) (I : Hp) : Prop := ∃ (Gd : Hp → Prop) (Y : Nat → Hp → V → Hp → Prop), Walk J ds.length Gd Y ∧ (∀ I' H', Same I I' → Same I' H' → Gd H') ∧
 ∀ (i : Nat) (d : D) (g : G) (env : En) (σ : St) (I' H : Hp) (x : V) (H' : Hp), ds[i]? = some d → Same I I' → SR Z.K Z.cl g env σ I' H → Y i H x H' → ∃ I2, SR Z.K Z.cl g env σ I2 H' ∧ Same I' I2 ∧ Rep Z.K Z.cl I2 d x
abbrev MI := En → Option (List D × En)
def SI (Z : Zc) (wi : TI) (m : MI) : Prop := ∀ (g : G) (env : En) (σ : St) (I H : Hp) (R : It → Hp → Prop) (ds : List D) (env' : En), SR Z.K Z.cl g env σ I H → m env = some (ds, env') →
 (∀ J I' H', SR Z.K Z.cl g env' σ I' H' → Same I I' → WD Z J ds I' → R J H') → wi σ H R
def IV (Z : Zc) (tg e : Expr) (m : MI) : Prop := ∃ wi, (∀ X, InF Z X → PI X tg e wi) ∧ SI Z wi m
theorem vZ {X : Cx} {tg e : Expr} {w1 w2 : TI} (h1 : PI X tg e w1) (h2 : PI X tg e w2) : PI X tg e (fun σ H R => w1 σ H R ∨ w2 σ H R) :=
 ⟨fun pins s σ H R I h => h.elim (h1.run pins s σ H R I) (h2.run pins s σ H R I)⟩
def signs (z : Str) : List D := z.cps.toList.map fun c => .str ⟨#[c]⟩
def D.walk? : D → Option (List D)
 | .lst xs => some xs
 | .scr xs => some xs
 | .tup xs => some xs
 | .str z => some (signs z)
 | _ => none
def eA (a : ME) : MI := fun env => (a env).bind fun p => (p.1.walk?).map fun xs => (xs, p.2)
theorem qW {a : Addr} {xs : List D} {vs : List V} {I : Hp} (h : SqL Z.K I a vs) (r : aI Z.K Z.cl I xs vs) : WD Z (Itl Z.K a) xs I := by
 refine ⟨_, _, by rw [r.length]; exact walk_list, fun I' H' s s' => (s.trans s').seq h, fun i d g env σ I' H x H' hd s R y => ?_⟩
 obtain ⟨rfl, hx⟩ := y
 obtain ⟨v, hv, rv⟩ := r.get hd
 rw [hv] at hx; cases hx
 exact ⟨I', R, Same.refl _, rv.mono s⟩
theorem zX {a : Addr} {xs : List D} {vs : List V} {I : Hp} (h : SqT Z.K I a vs) (r : aI Z.K Z.cl I xs vs) : WD Z (Itt Z.K a) xs I := by
 refine ⟨_, _, by rw [r.length]; exact walk_tup, fun I' H' s s' => SqT.mono (s.trans s') h, fun i d g env σ I' H x H' hd s R y => ?_⟩
 obtain ⟨rfl, hx⟩ := y
 obtain ⟨v, hv, rv⟩ := r.get hd
 rw [hv] at hx; cases hx
 exact ⟨I', R, Same.refl _, rv.mono s⟩
theorem zi {z : Str} {I : Hp} : WD Z (Its z) (signs z) I := by
 refine ⟨_, _, by unfold signs; rw [List.length_map, Array.length_toList]; exact walk_str, fun I' H' s s' => trivial, fun i d g env σ I' H x H' hd s R y => ?_⟩
 obtain ⟨rfl, c, hc, rfl⟩ := y
 unfold signs at hd
 rw [List.getElem?_map, Array.getElem?_toList, hc] at hd
 cases hd
 exact ⟨I', R, Same.refl _, .str⟩
theorem kN {tg e : Expr} {m : ME} (h : EV Z e m) : IV Z tg e (eA m) := by
 obtain ⟨t, h1, h2⟩ := h
 refine ⟨fun σ H R => iList Z.K t σ H R ∨ (iTup Z.K t σ H R ∨ iStr t σ H R), fun X i => ?_, fun g env σ I H R ds env' Rr hm k => ?_⟩
 ·have q1 := pi_list (X := X) (tg := tg) (h1 X i)
  have q2 := pi_tup (X := X) (tg := tg) (h1 X i)
  rw [i.K] at q1 q2
  exact vZ q1 (vZ q2 (pi_str (h1 X i)))
 ·unfold eA at hm
  cases e1 : m env with
  | none => rw [e1] at hm; cases hm
  | some p =>
   obtain ⟨d, en⟩ := p
   rw [e1] at hm; simp only [Option.bind_some] at hm
   cases d <;> simp only [D.walk?] at hm <;> first | cases hm | skip
   ·refine .inr (.inr (h2 g env σ I H _ _ _ Rr e1 fun v I1 H1 R1 s1 rv => ⟨_, rv.str_inv, k _ I1 H1 R1 s1 zi⟩))
   ·refine .inl (h2 g env σ I H _ _ _ Rr e1 fun v I1 H1 R1 s1 rv => ?_)
    obtain ⟨a, vs, rfl, ha, ra⟩ := rv.lst_inv
    exact ⟨a, rfl, ⟨vs, SqL.of (R1.sub _ _ ha)⟩, k _ I1 H1 R1 s1 (qW (SqL.of ha) ra)⟩
   ·refine .inr (.inl (h2 g env σ I H _ _ _ Rr e1 fun v I1 H1 R1 s1 rv => ?_))
    obtain ⟨a, vs, rfl, ha, ra⟩ := rv.tup_inv
    exact ⟨a, rfl, ⟨vs, SqT.mono R1.sub ha⟩, k _ I1 H1 R1 s1 (zX ha ra)⟩
   ·refine .inl (h2 g env σ I H _ _ _ Rr e1 fun v I1 H1 R1 s1 rv => ?_)
    obtain ⟨a, vs, rfl, ha, ra⟩ := rv.scr_inv
    exact ⟨a, rfl, ⟨vs, R1.sub.seq ha⟩, k _ I1 H1 R1 s1 (qW ha ra)⟩
def ef (lo : Int) (n : Nat) : List D := (List.range n).map fun i => .int (lo + (i : Nat))
theorem tD {lo : Int} {n : Nat} {I : Hp} : WD Z (Itr lo n) (ef lo n) I := by
 refine ⟨_, _, by unfold ef; rw [List.length_map, List.length_range]; exact walk_range, fun _ _ _ _ => trivial, fun i d g env σ I' H x H' hd s R y => ?_⟩
 obtain ⟨rfl, rfl⟩ := y
 unfold ef at hd
 rw [List.getElem?_map] at hd
 cases e : (List.range n)[i]? with
 | none => rw [e] at hd; cases hd
 | some j =>
  rw [e] at hd
  cases hd
  obtain ⟨h1, h2⟩ := List.getElem?_eq_some_iff.mp e
  rw [List.getElem_range] at h2
  subst h2
  exact ⟨I', R, Same.refl _, .int⟩
def iR1 (a : En → Option (List D × En)) : MI := fun env => (a env).bind fun p => match p.1 with
 | [.int j] => if -(2 ^ 62) ≤ j ∧ j < 2 ^ 62 then some (ef 0 j.toNat, p.2) else none
 | _ => none
def iR2 (a : En → Option (List D × En)) : MI := fun env => (a env).bind fun p => match p.1 with
 | [.int i, .int j] => if -(2 ^ 62) ≤ i ∧ i < 2 ^ 62 ∧ -(2 ^ 62) ≤ j ∧ j < 2 ^ 62 then some (ef i (j - i).toNat, p.2) else none
 | _ => none
theorem gE {tg a : Expr} {m : En → Option (List D × En)} {p pos : Pos} (hg : GlZ Z "range") (hm : Z.mg "range" = none) (h : AE Z [a] m) (hs : ∀ env, starEach [a] env = [(false, eval a env)] := by intro _; rfl) : IV Z tg (.Call (.Name "range" p) [a] [] pos) (iR1 m) := by
 obtain ⟨t, h1, h2⟩ := h
 refine ⟨iRng1 t, fun X i => pi_range1 (eL i hg) (by rw [i.mg]; exact hm) (h1 X i) (hs _), fun g env σ I H R ds env' Rr hm k => ?_⟩
 unfold iR1 at hm
 cases hes : m env with
 | none => rw [hes] at hm; cases hm
 | some es =>
  rw [hes] at hm
  simp only [Option.bind_some] at hm
  obtain ⟨es, en⟩ := es
  refine h2 g env σ I H _ es en Rr hes fun vs I1 H1 R1 s1 rs => ?_
  dsimp only at hm
  split at hm
  ·split at hm
   ·rename_i hb
    cases hm
    cases rs with
    | cons r1 r2 =>
     cases r2
     cases r1.int_inv
     exact ⟨_, rfl, hb.1, hb.2, k _ I1 H1 R1 s1 tD⟩
   ·cases hm
  ·cases hm
theorem xk {tg a b : Expr} {m : En → Option (List D × En)} {p pos : Pos} (hg : GlZ Z "range") (hm : Z.mg "range" = none) (h : AE Z [a, b] m) (hs : ∀ env, starEach [a, b] env = [(false, eval a env), (false, eval b env)] := by intro _; rfl) (hs2 : ∀ env, starEach [b] env = [(false, eval b env)] := by intro _; rfl) : IV Z tg (.Call (.Name "range" p) [a, b] [] pos) (iR2 m) := by
 obtain ⟨t, h1, h2⟩ := h
 refine ⟨iRng2 t, fun X i => pi_range2 (eL i hg) (by rw [i.mg]; exact hm) (h1 X i) (hs _) (hs2 _), fun g env σ I H R ds env' Rr hm k => ?_⟩
 unfold iR2 at hm
 cases hes : m env with
 | none => rw [hes] at hm; cases hm
 | some es =>
  rw [hes] at hm
  simp only [Option.bind_some] at hm
  obtain ⟨es, en⟩ := es
  refine h2 g env σ I H _ es en Rr hes fun vs I1 H1 R1 s1 rs => ?_
  dsimp only at hm
  split at hm
  ·split at hm
   ·rename_i hb
    cases hm
    cases rs with
    | cons r1 r2 =>
     cases r2 with
     | cons r2 r3 =>
      cases r3
      cases r1.int_inv
      cases r2.int_inv
      exact ⟨_, _, rfl, hb, k _ I1 H1 R1 s1 tD⟩
   ·cases hm
  ·cases hm
theorem SR.tup {K : PySem.W.Frag} {cl : String → Option Addr} {g : G} {env : En} {σ : St} {I H : Hp} (R : SR K cl g env σ I H) {p : Addr} {ds : List D} {vs : List V} (hp : H p = none) (r : aI K cl I ds vs) :
  SR K cl g env σ (upd I p (.tup vs)) (upd H p (.tup vs)) ∧ Same I (upd I p (.tup vs)) ∧ Rep K cl (upd I p (.tup vs)) (.tup ds) (.ref p) := by
 obtain ⟨R2, s2⟩ := (R.alloc hp _).freeze (R.new (o := .tup vs) hp)
 exact ⟨R2, s2, .tup (SqT.of upd_same) (r.mono s2)⟩
def fC (k : Nat) : List D → List D
 | [] => []
 | d :: ds => .tup [.int (k : Int), d] :: fC (k + 1) ds
theorem fh : ∀ (ds : List D) (k : Nat), (fC k ds).length = ds.length
 | [], _ => rfl
 | d :: ds, k => by simp [fC, fh ds]
theorem ja : ∀ (ds : List D) (k i : Nat) (e : D), (fC k ds)[i]? = some e → ∃ d, ds[i]? = some d ∧ e = .tup [.int ((k + i : Nat) : Int), d]
 | [], k, i, e, h => by simp [fC] at h
 | d :: ds, k, 0, e, h => by simp [fC] at h; exact ⟨d, rfl, h.symm⟩
 | d :: ds, k, i + 1, e, h => by
  obtain ⟨d', h1, h2⟩ := ja ds (k + 1) i e (by simpa [fC] using h)
  refine ⟨d', by simpa using h1, ?_⟩
  rw [h2]
  have : k + 1 + i = k + (i + 1) := by omega
  rw [this]
def iEn (a : En → Option (List D × En)) : MI := fun env => (a env).bind fun p => match p.1 with
 | [.lst xs] => some (fC 0 xs, p.2)
 | _ => none
theorem n0 {a : Expr} {m : En → Option (List D × En)} {elts : List Expr} {kk : Nat} {p pos tpos : Pos} (hg : GlZ Z "enumerate") (hm : Z.mg "enumerate" = none) (h : AE Z [a] m) (hs : ∀ env, starEach [a] env = [(false, eval a env)] := by intro _; rfl) : IV Z (.Tuple elts kk tpos) (.Call (.Name "enumerate" p) [a] [] pos) (iEn m) := by
 obtain ⟨t, h1, h2⟩ := h
 refine ⟨iEnum Z.K t, fun X i => by have q := pi_enum (X := X) (p := p) (pos := pos) (tpos := tpos) (elts := elts) (kk := kk) (eL i hg) (by rw [i.mg]; exact hm) (h1 X i) (hs _); rw [i.K] at q; exact q, fun g env σ I H R ds env' Rr hm k => ?_⟩
 unfold iEn at hm
 cases hes : m env with
 | none => rw [hes] at hm; cases hm
 | some es =>
  rw [hes] at hm
  simp only [Option.bind_some] at hm
  obtain ⟨es, en⟩ := es
  refine h2 g env σ I H _ es en Rr hes fun vs I1 H1 R1 s1 rs => ?_
  dsimp only at hm
  split at hm
  ·rename_i xs
   cases hm
   cases rs with
   | cons r1 r2 =>
    cases r2
    obtain ⟨a, us, rfl, ha, ra⟩ := r1.lst_inv
    refine ⟨a, us, rfl, SqL.of (R1.sub _ _ ha), k _ I1 H1 R1 s1 ?_⟩
    refine ⟨_, _, by have q := walk_enum (K := Z.K) (a := a) (xs := us); rw [← ra.length, ← fh xs 0] at q; exact q, fun I' H' s s' => SqL.of (s' _ _ (s _ _ ha)), fun i d g env σ I' H x H' hd s R y => ?_⟩
    obtain ⟨T, x1, y1, rfl, hT, rfl, hx1, hy1⟩ := y
    obtain ⟨d', hd', rfl⟩ := ja _ _ _ _ hd
    obtain ⟨v, hv, rv⟩ := ra.get hd'
    dsimp only at hx1 hy1
    cases hx1
    rw [hv] at hy1; cases hy1
    obtain ⟨R2, s2, r2⟩ := R.tup (ds := [.int ((0 + i : Nat) : Int), d']) hT (.cons (by simp only [Nat.zero_add]; exact .int) (.cons (rv.mono s) .nil))
    exact ⟨_, R2, s2, r2⟩
  ·cases hm
def iZ (gf : D → En → Option En) (body : MS) : List D → MS
 | [], env => some (.nx env)
 | d :: ds, env => (gf d env).bind fun e => (body e).bind fun fl => match fl with
  | .nx e' => iZ gf body ds e'
  | .ct e' => iZ gf body ds e'
  | .bk e' => some (.nx e')
  | .ret md r e' => some (.ret md r e')
def eT (it : MI) (gf : D → En → Option En) (body : MS) : MS := fun env => (it env).bind fun p => iZ gf body p.1 p.2
theorem jv {tg e : Expr} {b : List Stmt} {mi : MI} {ix : List Nat} {gf : D → En → Option En} {mb : MS} {pos : Pos} (hi : IV Z tg e mi) (hg : GV Z tg ix gf) (hb : BV Z b mb) (hs : ∀ env x, foldedSetIterable e env x = pure x := by intro _ _; rfl) : SV Z (.For tg e b [] pos) (eT mi gf mb) := by
 obtain ⟨wi, i1, i2⟩ := hi
 obtain ⟨gt, g1, g2⟩ := hg
 obtain ⟨tb, b1, b2⟩ := hb
 refine ⟨tFor wi gt tb, fun X k => ps_for k.own k.calm (i1 X k) (g1 X k) (b1 X k) (hs _), fun g env σ I H D fl R hm k => ?_⟩
 unfold eT at hm
 cases e1 : mi env with
 | none => rw [e1] at hm; cases hm
 | some p =>
  obtain ⟨ds, en⟩ := p
  rw [e1] at hm; simp only [Option.bind_some] at hm
  refine i2 g env σ I H _ ds en R e1 fun J I1 H1 R1 s1 wd => ?_
  obtain ⟨Gd, Y, hw, hgd, hy⟩ := wd
  refine for_it hw (fun i σ' H' => ∃ env' I', SR Z.K Z.cl g env' σ' I' H' ∧ Same I1 I' ∧ iZ gf mb (ds.drop i) env' = some fl) ⟨en, I1, R1, Same.refl _, hm⟩ (fun i σ' H' _ ⟨env', I', R', s', _⟩ => hgd I' H' s' R'.sub) ?_ ?_
  ·rintro i x σ2 H2 H3 hlt ⟨env2, I2, R2, s2, hm2⟩ hyld
   have hd : ds[i]? = some ds[i] := List.getElem?_eq_getElem hlt
   have hdrop : ds.drop i = ds[i] :: ds.drop (i + 1) := List.drop_eq_getElem_cons hlt
   rw [hdrop] at hm2
   obtain ⟨I3, R3, s3, r3⟩ := hy i ds[i] g env2 σ2 I2 H2 x H3 hd s2 R2 hyld
   unfold iZ at hm2
   cases e2 : gf ds[i] env2 with
   | none => rw [e2] at hm2; cases hm2
   | some en2 =>
    rw [e2] at hm2; simp only [Option.bind_some] at hm2
    refine g2 g env2 σ2 I3 H3 ds[i] x _ en2 R3 r3 e2 fun σ4 R4 _ => ?_
    cases e3 : mb en2 with
    | none => rw [e3] at hm2; cases hm2
    | some f =>
     rw [e3] at hm2; simp only [Option.bind_some] at hm2
     refine b2 g en2 σ4 I3 H3 _ f R4 e3 ?_
     cases f with
     | nx e => exact fun σ5 I5 H5 R5 s5 => ⟨e, I5, R5, (s2.trans s3).trans s5, hm2⟩
     | ct e => exact fun σ5 I5 H5 R5 s5 => ⟨e, I5, R5, (s2.trans s3).trans s5, hm2⟩
     | bk e => cases hm2; exact fun σ5 I5 H5 R5 s5 => k σ5 I5 H5 R5 (s1.trans ((s2.trans s3).trans s5))
     | ret md r e => cases hm2; exact fun σ5 I5 H5 v R5 s5 hr => k σ5 I5 H5 v R5 (s1.trans ((s2.trans s3).trans s5)) hr
  ·rintro σ2 H2 ⟨env2, I2, R2, s2, hm2⟩
   rw [List.drop_length] at hm2
   cases hm2
   exact k σ2 I2 H2 R2 (s1.trans s2)
end
end Q
namespace Q
open PySem L2
section
variable {Z : Zc}
def ZB (Z : Zc) (scope : Scope) : Zc := { Z with sc := relS scope Z.sc, all := false, me := none }
theorem inB {X : Cx} {scope : Scope} (h : InF Z X) (s : Shared) (H : Hp) (C : Addr) (cl : List (Str × Addr)) (fp : List Addr) : InF (ZB Z scope) (X.blk s H scope (compEnvC scope cl C X.env) fp) :=
 ⟨h.prog, h.w, h.K, h.mg, h.base, h.N, (by show relS scope X.env.scope = relS scope Z.sc; rw [h.sc]), h.calm, h.room, h.nd, (fun e => Bool.noConfusion (show false = true from e)), PassesOwn.never, h.gd, fun _ _ e => by cases e⟩
def CV (Z : Zc) (es : List Expr) (m : MT) : Prop := ∃ t, (∀ X, InF Z X → PTs X es t) ∧ ST Z t m
def cZ : MT := fun env => some (true, env)
theorem gh : CV Z [] cZ := ⟨tYes, fun _ _ => pts_nil, fun g env σ I H Q b env' R hm k => by cases hm; exact k I H R (Same.refl _)⟩
def bY (env : En) : List Nat → En
 | [] => env
 | v :: vs => (bY env vs).set v .un
theorem SR.unset {K : PySem.W.Frag} {cl : String → Option Addr} {g : G} {env : En} {σ : St} {I H : Hp} (R : SR K cl g env σ I H) (i : Nat) (x : Option V) : SR K cl g (env.set i .un) (σ.set i x) I H := by
 by_cases h : i < σ.length
 ·exact R.setUn h
 ·have h2 : ¬ i < env.length := by rw [R.len]; exact h
  rw [List.set_eq_of_length_le (by omega), List.set_eq_of_length_le (by omega)]
  exact R
theorem SR.wipe {K : PySem.W.Frag} {cl : String → Option Addr} {g : G} {env : En} {σ : St} {I H : Hp} (R : SR K cl g env σ I H) : ∀ vs, SR K cl g (bY env vs) (wipe σ vs) I H
 | [] => R
 | v :: vs => (SR.wipe R vs).unset v none
def Sl.calm : Sl → Bool
 | .un => true
 | .imm _ => true
 | _ => false
def gc (env : En) (vs : List Nat) : Bool := vs.all fun v => match env[v]? with
 | some s => s.calm
 | none => false
def cW (e0 env : En) : List Nat → En
 | [] => env
 | v :: vs => match e0[v]? with
  | some s => cW e0 (env.set v s) vs
  | none => cW e0 env vs
theorem wipe_out {σ : St} {i : Nat} : ∀ {vs : List Nat}, i ∉ vs → (wipe σ vs)[i]? = σ[i]?
 | [], _ => rfl
 | v :: vs, h => by
  show ((wipe σ vs).set v none)[i]? = σ[i]?
  rw [List.getElem?_set_ne (fun z => h (by rw [z]; exact List.mem_cons_self)), wipe_out fun z => h (List.mem_cons_of_mem _ z)]
theorem SR.back {K : PySem.W.Frag} {cl : String → Option Addr} {g g0 : G} {e0 : En} {σ : St} {I0 H0 : Hp} (R0 : SR K cl g0 e0 σ I0 H0) :
  ∀ (vs : List Nat) {env : En} {I H : Hp}, vs.Nodup → gc e0 vs = true → SR K cl g env (L2.wipe σ vs) I H → Same I0 I → SR K cl g (cW e0 env vs) σ I H
 | [], env, I, H, _, _, R, _ => R
 | v :: vs, env, I, H, hnd, hc, R, s => by
  unfold gc at hc
  rw [List.all_cons, Bool.and_eq_true] at hc
  obtain ⟨h1, h2⟩ := hc
  obtain ⟨hv, hnd2⟩ := List.nodup_cons.mp hnd
  unfold cW
  cases e : e0[v]? with
  | none => rw [e] at h1; cases h1
  | some sl =>
   rw [e] at h1
   obtain ⟨x, hx, q⟩ := R0.at_ v sl e
   have hvl : v < σ.length := (List.getElem?_eq_some_iff.mp hx).1
   have hs : ly K cl g I H sl x := by
    cases sl with
    | un => trivial
    | imm d => obtain ⟨w, rfl, r⟩ := q; exact ⟨w, rfl, r.mono s⟩
    | _ => cases h1
   have ht : sl.top = false := by cases sl <;> first | rfl | cases h1
   have R1 := R.store (i := v) (s' := sl) (x := x) (by rw [wipe_length]; exact hvl) hs (fun a _ z => by rw [ht] at z; cases z)
   have e1 : (L2.wipe σ (v :: vs)).set v x = L2.wipe σ vs := by
    show ((L2.wipe σ vs).set v none).set v x = L2.wipe σ vs
    rw [List.set_set]
    have q2 : (L2.wipe σ vs)[v]? = some x := by rw [wipe_out hv]; exact hx
    apply List.ext_getElem?
    intro j
    by_cases hj : j = v
    ·subst hj; rw [List.getElem?_set_self (by rw [wipe_length]; exact hvl)]; exact q2.symm
    ·rw [List.getElem?_set_ne (Ne.symm hj)]
   rw [e1] at R1
   exact SR.back R0 vs hnd2 h2 R1 s
abbrev G.beside (g : G) (p : Addr) (o : HO) : G := { g with X := (p, o) :: g.X }
section
variable {K : PySem.W.Frag} {cl : String → Option Addr} {g : G} {env : En} {σ : St} {I H : Hp} {p : Addr} {o o' : HO}
theorem SR.put (R : SR K cl g env σ I H) (n : New g env σ I H p o) : SR K cl (g.beside p o) env σ I H :=
 ⟨R.sub, R.i0, R.h0, R.hi, R.oh, R.len, R.at_, R.dis, fun a u h => by
  rcases List.mem_cons.mp h with h | h
  ·cases h; exact ⟨n.at_, n.i, n.no⟩
  ·exact R.ex a u h, fun a u h => by
  rcases List.mem_cons.mp h with h | h
  ·cases h; exact n.h0
  ·exact R.ex0 a u h, R.tb⟩
theorem SR.take (hx : ∀ u, (p, u) ∉ g.X) (R : SR K cl (g.beside p o) env σ I H) : SR K cl g env σ I H ∧ New g env σ I H p o :=
 ⟨⟨R.sub, R.i0, R.h0, R.hi, R.oh, R.len, R.at_, R.dis, fun a u h => R.ex a u (List.mem_cons_of_mem _ h), fun a u h => R.ex0 a u (List.mem_cons_of_mem _ h), R.tb⟩,
  (R.ex p o List.mem_cons_self).1, (R.ex p o List.mem_cons_self).2.1, R.ex0 p o List.mem_cons_self, (R.ex p o List.mem_cons_self).2.2, hx⟩
theorem SR.exSet (hx : ∀ u, (p, u) ∉ g.X) (R : SR K cl (g.beside p o) env σ I H) : SR K cl (g.beside p o') env σ I (upd H p o') := by
 obtain ⟨h1, h2, h3⟩ := R.ex p o List.mem_cons_self
 have h4 := R.ex0 p o List.mem_cons_self
 have ne : ∀ (i : Nat) (s : Sl) (b : Addr), env[i]? = some s → s.top = true → σ[i]? = some (some (.ref b)) → b ≠ p := fun i s b q1 q2 q3 z => by subst z; exact h3 i s q1 q2 q3
 refine ⟨fun b u e => ?_, R.i0, fun b u e1 e2 e3 => ?_, R.hi, fun b hb => ?_, R.len, fun i s e => ?_, R.dis, fun b u hb => ?_, fun b u hb => ?_, fun b ht => ?_⟩
 ·rw [upd_ne (fun z => by subst z; rw [h2] at e; cases e)]; exact R.sub b u e
 ·rw [upd_ne (fun z => by subst z; rw [show g.H0 b = none from h4] at e1; cases e1)]; exact R.h0 b u e1 e2 e3
 ·obtain ⟨⟨u, q1⟩, q2, v, q3⟩ := R.oh b hb
  have z : b ≠ p := fun z => by subst z; rw [show g.H0 b = none from h4] at q3; cases q3
  exact ⟨⟨u, by rw [upd_ne z]; exact q1⟩, q2, v, q3⟩
 ·obtain ⟨x, hx, q⟩ := R.at_ i s e
  refine ⟨x, hx, ?_⟩
  cases s with
  | un => trivial
  | imm d => exact q
  | bor d => obtain ⟨b, rfl, u, q1, q2⟩ := q; exact ⟨b, rfl, u, by rw [upd_ne (ne i _ b e rfl hx)]; exact q1, q2⟩
  | own d => obtain ⟨b, u, rfl, q1, q2⟩ := q; exact ⟨b, u, rfl, by rw [upd_ne (ne i _ b e rfl hx)]; exact q1, q2⟩
  | lck d => obtain ⟨b, u, rfl, q1, q2⟩ := q; exact ⟨b, u, rfl, by rw [upd_ne (ne i _ b e rfl hx)]; exact q1, q2⟩
  | io k d => obtain ⟨b, u, rfl, q0, q1, q2⟩ := q; exact ⟨b, u, rfl, q0, by rw [upd_ne (ne i _ b e rfl hx)]; exact q1, q2⟩
 ·rcases List.mem_cons.mp hb with hb | hb
  ·cases hb; exact ⟨upd_same, h2, h3⟩
  ·have z : b ≠ p := fun z => hx u (by rw [← z]; exact hb)
   obtain ⟨q1, q2, q3⟩ := R.ex b u (List.mem_cons_of_mem _ hb)
   exact ⟨by rw [upd_ne z]; exact q1, q2, q3⟩
 ·rcases List.mem_cons.mp hb with hb | hb
  ·cases hb; exact h4
  ·exact R.ex0 b u (List.mem_cons_of_mem _ hb)
 ·obtain ⟨t1, ⟨ps, t2, t3⟩, v, t4⟩ := R.tb b ht
  have z : b ≠ p := fun z => by subst z; rw [show g.H0 b = none from h4] at t4; cases t4
  exact ⟨t1, ⟨ps, by rw [upd_ne z]; exact t2, t3⟩, v, t4⟩
end
def eH (gf : D → En → Option En) (mt : MT) (me : ME) (vs : List Nat) : List D → List D → En → Option (List D × En)
 | [], acc, env => some (acc, env)
 | d :: ds, acc, env => (gf d (bY env vs)).bind fun e1 => (mt e1).bind fun p =>
  if p.1 then (me p.2).bind fun q => if acc.length < sizeLine then eH gf mt me vs ds (acc ++ [q.1]) q.2 else none
  else eH gf mt me vs ds acc p.2
def mLc (vs : List Nat) (mi : MI) (gf : D → En → Option En) (mt : MT) (me : ME) : ME := fun env => (mi env).bind fun p => if gc p.2 vs = true then (eH gf mt me vs p.1 [] p.2).map fun q => (.lst q.1, cW p.2 (bY q.2 vs) vs) else none
theorem we {wi : TI} {gt : TG} {tt : TT} {te : TE} {vs : List Nat} {mi : MI} {gf : D → En → Option En} {mt : MT} {me : ME} {ix : List Nat} {scope : Scope} (hnd : vs.Nodup) (hix : ∀ i ∈ ix, i ∈ vs) (i2 : SI Z wi mi)
  (g2 : ∀ (g : G) (env : En) (σ : St) (I H : Hp) (d : D) (v : V) (Q : St → Hp → Prop) (env' : En), SR Z.K Z.cl g env σ I H → Rep Z.K Z.cl I d v → gf d env = some env' →
   (∀ σ', SR Z.K Z.cl g env' σ' I H → (∀ vs, (∀ i ∈ ix, i ∈ vs) → wipe σ' vs = wipe σ vs) → Q σ' H) → gt v σ H Q)
  (t2 : ST Z tt mt) (e2 : SE Z te me) : SF Z (tLc wi gt tt te vs) (mLc vs mi gf mt me) := by
 intro g env σ I H Q d env' R hm k
 unfold mLc at hm
 cases e1 : mi env with
 | none => rw [e1] at hm; cases hm
 | some p =>
  obtain ⟨ds, en⟩ := p
  rw [e1] at hm; simp only [Option.bind_some] at hm
  split at hm
  ·rename_i hcalm
   cases e3 : eH gf mt me vs ds [] en with
   | none => rw [e3] at hm; cases hm
   | some q =>
    obtain ⟨fin, enf⟩ := q
    rw [e3] at hm; cases hm
    refine i2 g env σ I H _ ds en R e1 fun J I1 H1 R1 s1 wd L hL => ?_
    obtain ⟨Gd, Y, hw, hgd, hy⟩ := wd
    have hX : ∀ u, (L, u) ∉ g.X := (R1.new (o := .lst []) hL).x
    refine lc_it hw (fun i H' => ∃ env' I' acc av, SR Z.K Z.cl (g.beside L (.lst av)) (bY env' vs) (wipe σ vs) I' H' ∧ Same I1 I' ∧ aI Z.K Z.cl I' acc av ∧ eH gf mt me vs (ds.drop i) acc env' = some (fin, enf))
     ⟨en, I1, [], [], ((R1.alloc hL _).put (R1.new hL)).wipe vs, Same.refl _, .nil, e3⟩ (fun i H' _ ⟨env', I', acc, av, R', s', _⟩ => hgd I' H' s' R'.sub) ?_ ?_
    ·rintro i x H2 H3 hlt ⟨env2, I2, acc, av, R2, s2, ra, hm2⟩ hyld
     have hd : ds[i]? = some ds[i] := List.getElem?_eq_getElem hlt
     have hdrop : ds.drop i = ds[i] :: ds.drop (i + 1) := List.drop_eq_getElem_cons hlt
     rw [hdrop] at hm2
     obtain ⟨I3, R3, s3, r3⟩ := hy i ds[i] _ _ _ I2 H2 x H3 hd s2 R2 hyld
     unfold eH at hm2
     cases q1 : gf ds[i] (bY env2 vs) with
     | none => rw [q1] at hm2; cases hm2
     | some en3 =>
      rw [q1] at hm2; simp only [Option.bind_some] at hm2
      refine g2 _ _ _ I3 H3 ds[i] x _ en3 R3 r3 q1 fun σ4 R4 w4 => ?_
      have hwp : wipe σ4 vs = wipe σ vs := by
       rw [w4 vs hix]
       have ww : ∀ (ws us : List Nat) (τ : St), (∀ u ∈ us, u ∈ ws) → wipe (wipe τ us) ws = wipe τ ws := by
        intro ws us
        induction us with
        | nil => intro τ _; rfl
        | cons u us ih =>
         intro τ hu
         show wipe ((wipe τ us).set u none) ws = wipe τ ws
         rw [iQ (hu u List.mem_cons_self), ih τ fun v hv => hu v (List.mem_cons_of_mem _ hv)]
       exact ww vs vs σ fun _ h => h
      refine ⟨hwp, ?_⟩
      cases q2 : mt en3 with
      | none => rw [q2] at hm2; cases hm2
      | some p2 =>
       obtain ⟨b, en4⟩ := p2
       rw [q2] at hm2; simp only [Option.bind_some] at hm2
       refine t2 _ _ _ I3 H3 _ b en4 R4 q2 fun I5 H5 R5 s5 => ?_
       cases b with
       | false =>
        simp only [Bool.false_eq_true, if_false] at hm2 ⊢
        have R6 := R5.wipe vs
        rw [hwp] at R6
        exact ⟨en4, I5, acc, av, R6, (s2.trans s3).trans s5, ra.mono (s3.trans s5), hm2⟩
       | true =>
        simp only [if_true] at hm2 ⊢
        cases q3 : me en4 with
        | none => rw [q3] at hm2; cases hm2
        | some p3 =>
         obtain ⟨y, en5⟩ := p3
         rw [q3] at hm2; simp only [Option.bind_some] at hm2
         split at hm2
         ·rename_i hlen
          refine e2 _ _ _ I5 H5 _ y en5 R5 q3 fun v I6 H6 R6 s6 rv => ?_
          have ra6 := ra.mono ((s3.trans s5).trans s6)
          refine ⟨av, (R6.ex L _ List.mem_cons_self).1, by rw [← ra.length]; exact hlen, en5, I6, acc ++ [y], av ++ [v], ?_, ((s2.trans s3).trans s5).trans s6, ra6.append (.cons rv .nil), hm2⟩
          have R7 := (R6.exSet (o' := .lst (av ++ [v])) hX).wipe vs
          rw [hwp] at R7
          exact R7
         ·cases hm2
    ·rintro H2 ⟨env2, I2, acc, av, R2, s2, ra, hm2⟩
     rw [List.drop_length] at hm2
     cases hm2
     have R3 := SR.back R1 vs hnd hcalm R2 s2
     obtain ⟨R4, n4⟩ := R3.take hX
     exact k L _ I2 H2 R4 (s1.trans s2) n4 (.lst ra)
  ·cases hm
theorem vR {elt tg iter : Expr} {ifs : List Expr} {scope : Scope} {own : List (Str × Nat)} {pos : Pos} {mi : MI} {ix : List Nat} {gf : D → En → Option En} {mt : MT} {me : ME} (hi : IV Z tg iter mi) (ok : BlkOk Z.N Z.sc scope own) (hg : GV (ZB Z scope) tg ix gf) (ht : CV (ZB Z scope) ifs mt)
  (he : EV (ZB Z scope) elt me) (hnd : (own.map (·.2)).Nodup := by decide) (hix : ∀ i ∈ ix, i ∈ own.map (·.2) := by decide) (hs : ∀ env x, foldedSetIterable iter env x = pure x := by intro _ _; rfl) : EF Z (.ListComp elt [⟨tg, iter, ifs, 0⟩] scope pos) (mLc (own.map (·.2)) mi gf mt me) := by
 obtain ⟨wi, i1, i2⟩ := hi
 obtain ⟨gt, g1, g2⟩ := hg
 obtain ⟨tt, t1, t2⟩ := ht
 obtain ⟨te, e1, e2⟩ := he
 exact ⟨_, fun X k => pe_lc k.calm k.nd (i1 X k) (by rw [k.N, k.sc]; exact ok) (fun s H C cl fp => g1 _ (inB k s H C cl fp)) (fun s H C cl fp => t1 _ (inB k s H C cl fp)) (fun s H C cl fp => e1 _ (inB k s H C cl fp)) (hs _), we (scope := scope) hnd hix i2 g2 t2 e2⟩
theorem gQ {i : Nat} {y : Str} {py : Pos} {elt tg iter : Expr} {ifs : List Expr} {scope : Scope} {own : List (Str × Nat)} {pos spos : Pos} {mi : MI} {ix : List Nat} {gf : D → En → Option En} {mt : MT} {me : ME} (hN : Z.N[i]? = some y) (hy : Z.sc.names.lookup y = some .local)
  (hk : Z.sc.kind = .function) (hl : (py.line == pos.line) = true := by rfl) (ha : (scope.names.any fun (n, k) => n == y && (k == .local || k == .cell)) = false := by decide +kernel)
  (hi : IV Z tg iter mi) (ok : BlkOk Z.N Z.sc scope own) (hg : GV (ZB Z scope) tg ix gf) (ht : CV (ZB Z scope) ifs mt)
  (he : EV (ZB Z scope) elt me) (hnd : (own.map (·.2)).Nodup := by decide) (hix : ∀ i ∈ ix, i ∈ own.map (·.2) := by decide) (hs : ∀ env x, foldedSetIterable iter env x = pure x := by intro _ _; rfl) :
  SV Z (.Assign [.Name y py] (.ListComp elt [⟨tg, iter, ifs, 0⟩] scope pos) spos) (d8 i (mLc (own.map (·.2)) mi gf mt me)) := by
 obtain ⟨wi, i1, i2⟩ := hi
 obtain ⟨gt, g1, g2⟩ := hg
 obtain ⟨tt, t1, t2⟩ := ht
 obtain ⟨te, e1, e2⟩ := he
 refine ⟨_, fun X k => ps_setLc k.calm k.nd (by rw [k.N]; exact hN) (by rw [k.sc]; exact hy) (sw_true (by rw [k.sc]; exact hk) (by rw [k.sc]; exact hy) hl ha) (i1 X k) (by rw [k.N, k.sc]; exact ok) (fun s H C cl fp => g1 _ (inB k s H C cl fp)) (fun s H C cl fp => t1 _ (inB k s H C cl fp)) (fun s H C cl fp => e1 _ (inB k s H C cl fp)) (hs _), fun g env σ I H D fl R hm k => ?_⟩
 unfold d8 at hm
 cases q1 : mLc (own.map (·.2)) mi gf mt me env with
 | none => rw [q1] at hm; cases hm
 | some r =>
  rw [q1] at hm
  simp only [Option.bind_some] at hm
  split at hm
  ·rename_i hi
   cases hm
   exact we (scope := scope) hnd hix i2 g2 t2 e2 g env σ I H _ r.1 r.2 R q1 fun a o I1 H1 R1 s1 n ro => k _ I1 H1 (R1.setOwn (by rw [← R1.len]; exact hi) n ro) s1
  ·cases hm
end
end Q
namespace Q
open PySem L2
section
variable {Z : Zc}
def spM (K : PySem.W.Frag) (cl : String → Option Addr) (N : List Str) (np : Nat) (m : MS) : Sp := fun vs H Q _ => vs.length = np ∧
 ∃ (g : G) (env : En) (I : Hp) (fl : Fl), SR K cl g env (start N vs) I H ∧ m env = some fl ∧
  (match fl with
  | .nx env' => ∀ σ' I' H', SR K cl g env' σ' I' H' → Same I I' → Q .non H'
  | .ret md d env' => ∀ σ' I' H' v, SR K cl g env' σ' I' H' → Same I I' → (match md with
   | .imm => Rep K cl I' d v
   | .new => ∃ p o, v = .ref p ∧ New g env' σ' I' H' p o ∧ bu K cl I' d o) → Q v H'
  | _ => False)
theorem cQ {P : Program} {w : World} {K : PySem.W.Frag} {mg : Str → Option Value} {base : Heap} {cl : String → Option Addr} {x qual : Str} {st : Stmt} {f : Addr} {fd : FuncData} {N ps : List Str} {k : Nat} {m : MS} {me : Option (Addr × Addr)}
  (F : Fun K x qual st f fd) (S : FnScope N ps (defScope st)) (hb : BV ⟨P, w, K, mg, base, N, defScope st, k, cl, true, me⟩ (defBody st) m) (hme : ∀ c P, me = some (c, P) → fd.code = .ref c ∧ GxR.TabB base mg c P ∧ a9 cl P := by intro _ _ h; cases h) : FnG P w K mg base CX0 (k + 1) f fd ps (spM K cl N ps.length m) := by
 refine lY F S (fun h => h.1) (fun cdv A outer s H vs Q E hcd hr hgd h => ?_)
 obtain ⟨t, b1, b2⟩ := hb
 obtain ⟨hl, g, env, I, fl, R, hm, k'⟩ := h
 refine ⟨t, (b1 _ ⟨rfl, rfl, rfl, rfl, rfl, rfl, rfl, rfl, hr, S.nd, fun _ _ => rfl, PassesOwn.never, hgd, fun c P e => let ⟨h1, h2⟩ := hme c P e; ⟨hcd.symm.trans h1, h2⟩⟩).nox, ?_⟩
 refine b2 g env (start N vs) I H _ fl R hm ?_
 cases fl with
 | nx e => exact fun σ' I' H' R' s => k' σ' I' H' R' s
 | bk e => exact k'.elim
 | ct e => exact k'.elim
 | ret md d e =>
  intro σ' I' H' v R' s hr
  refine k' σ' I' H' v R' s ?_
  cases md with
  | imm => exact hr
  | new => exact hr
inductive Ag where
 | imm (d : D) | bor (i : Nat) | io (i : Nat)
inductive iW (Z : Zc) (I : Hp) (σ : St) : Ag → V → Prop
 | imm {d v} : Rep Z.K Z.cl I d v → iW Z I σ (.imm d) v
 | bor {i v} : σ[i]? = some (some v) → iW Z I σ (.bor i) v
 | io {i v} : σ[i]? = some (some v) → iW Z I σ (.io i) v
inductive cX (Z : Zc) (I : Hp) (σ : St) : List Ag → List V → Prop
 | nil : cX Z I σ [] []
 | cons {a v as vs} : iW Z I σ a v → cX Z I σ as vs → cX Z I σ (a :: as) (v :: vs)
theorem iW.mono {I I' : Hp} {σ : St} {a : Ag} {v : V} (s : Same I I') (h : iW Z I σ a v) : iW Z I' σ a v := by
 cases h with
 | imm r => exact .imm (r.mono s)
 | bor h => exact .bor h
 | io h => exact .io h
abbrev MG := En → Option (List Ag × En)
def SG (Z : Zc) (t : TA) (m : MG) : Prop := ∀ (g : G) (env : En) (σ : St) (I H : Hp) (Q : List V → Hp → Prop) (as : List Ag) (env' : En), SR Z.K Z.cl g env σ I H → m env = some (as, env') →
 (∀ vs I' H', SR Z.K Z.cl g env' σ I' H' → Same I I' → cX Z I' σ as vs → Q vs H') → t σ H Q
def AV (Z : Zc) (es : List Expr) (m : MG) : Prop := ∃ t, (∀ X, InF Z X → PA X es t) ∧ SG Z t m
def aA : MG := fun env => some ([], env)
def aC (a : ME) (r : MG) : MG := fun env => (a env).bind fun p => (r p.2).map fun q => (.imm p.1 :: q.1, q.2)
def fo (i : Nat) (r : MG) : MG := fun env => (env[i]?.bind Sl.rd).bind fun _ => (r env).map fun q => (.bor i :: q.1, q.2)
def cIo (i : Nat) (r : MG) : MG := fun env => (env[i]?.bind Sl.own?).bind fun _ => (r env).map fun q => (.io i :: q.1, q.2)
theorem aZ : AV Z [] aA := ⟨tNil, fun _ _ => pa_nil, fun g env σ I H Q as env' R hm k => by cases hm; exact k [] I H R (Same.refl _) .nil⟩
theorem bc {e : Expr} {es : List Expr} {m : ME} {r : MG} (h : EV Z e m) (hr : AV Z es r) (hs : ∀ env, starEach (e :: es) env = (false, eval e env) :: starEach es env := by intro _; rfl) : AV Z (e :: es) (aC m r) := by
 obtain ⟨t, h1, h2⟩ := h
 obtain ⟨u, r1, r2⟩ := hr
 refine ⟨_, fun X i => pa_cons (h1 X i) (r1 X i) (hs _), fun g env σ I H Q as env' R hm k => ?_⟩
 unfold aC at hm
 cases e1 : m env with
 | none => rw [e1] at hm; cases hm
 | some p =>
  rw [e1] at hm
  simp only [Option.bind_some] at hm
  cases e2 : r p.2 with
  | none => rw [e2] at hm; cases hm
  | some q =>
   rw [e2] at hm; cases hm
   refine h2 g env σ I H _ p.1 p.2 R e1 fun v I1 H1 R1 s1 rv => ?_
   exact r2 g p.2 σ I1 H1 _ q.1 q.2 R1 e2 fun vs I2 H2 R2 s2 rs => k (v :: vs) I2 H2 R2 (s1.trans s2) (.cons (.imm (rv.mono s2)) rs)
theorem nI {i : Nat} {x : Str} {p : Pos} {es : List Expr} {r : MG} (hN : Z.N[i]? = some x) (hv : Vis Z.sc x) (hr : AV Z es r) (hd : (x == ("__debug__" : Str)) = false := by decide) (hcd : (x == ("__classdict__" : Str)) = false := by decide)
  (hs : ∀ env, starEach (.Name x p :: es) env = (false, eval (.Name x p) env) :: starEach es env := by intro _; rfl) : AV Z (.Name x p :: es) (fo i r) := by
 obtain ⟨u, r1, r2⟩ := hr
 refine ⟨_, fun X h => pa_cons (pe_var (by rw [h.N]; exact hN) (fM h hv) hd hcd) (r1 X h) (hs _), fun g env σ I H Q as env' R hm k => ?_⟩
 unfold fo at hm
 cases e1 : env[i]?.bind Sl.rd with
 | none => rw [e1] at hm; cases hm
 | some d =>
  rw [e1] at hm
  simp only [Option.bind_some] at hm
  cases e2 : r env with
  | none => rw [e2] at hm; cases hm
  | some q =>
   rw [e2] at hm; cases hm
   obtain ⟨v, hv⟩ := AJ R e1
   exact ⟨v, hv, r2 g env σ I H _ q.1 q.2 R e2 fun vs I2 H2 R2 s2 rs => k (v :: vs) I2 H2 R2 s2 (.cons (.bor hv) rs)⟩
theorem da {i : Nat} {x : Str} {p : Pos} {es : List Expr} {r : MG} (hN : Z.N[i]? = some x) (hv : Vis Z.sc x) (hr : AV Z es r) (hd : (x == ("__debug__" : Str)) = false := by decide) (hcd : (x == ("__classdict__" : Str)) = false := by decide)
  (hs : ∀ env, starEach (.Name x p :: es) env = (false, eval (.Name x p) env) :: starEach es env := by intro _; rfl) : AV Z (.Name x p :: es) (cIo i r) := by
 obtain ⟨u, r1, r2⟩ := hr
 refine ⟨_, fun X h => pa_cons (pe_var (by rw [h.N]; exact hN) (fM h hv) hd hcd) (r1 X h) (hs _), fun g env σ I H Q as env' R hm k => ?_⟩
 unfold cIo at hm
 cases e1 : env[i]? with
 | none => rw [e1] at hm; cases hm
 | some s =>
  rw [e1] at hm
  simp only [Option.bind_some] at hm
  cases e3 : s.own? with
  | none => rw [e3] at hm; cases hm
  | some d =>
   rw [e3] at hm
   simp only [Option.bind_some] at hm
   cases e2 : r env with
   | none => rw [e2] at hm; cases hm
   | some q =>
    rw [e2] at hm; cases hm
    obtain ⟨a, o, hv, _⟩ := jw R e1 e3
    exact ⟨_, hv, r2 g env σ I H _ q.1 q.2 R e2 fun vs I2 H2 R2 s2 rs => k (_ :: vs) I2 H2 R2 s2 (.cons (.io hv) rs)⟩
def Ag.slot (env : En) (n : Nat) : Ag → Option Sl
 | .imm d => some (.imm d)
 | .bor i => match env[i]? with
  | some (.imm d) => some (.imm d)
  | some s => s.rd.map .bor
  | none => none
 | .io i => (env[i]?.bind Sl.own?).map fun d => .io n d
def Ag.ioOf : Ag → Option Nat
 | .io i => some i
 | _ => none
def cE (env : En) : Nat → List Ag → Option (List Sl)
 | _, [] => some []
 | n, a :: as => (a.slot env n).bind fun s => (cE env (n + (if a.ioOf.isSome then 1 else 0)) as).map fun r => s :: r
def bG (as : List Ag) : List Nat := as.filterMap Ag.ioOf
def eN (as : List Ag) : List Nat := as.filterMap fun a => match a with
 | .bor i => some i
 | _ => none
def apart (as : List Ag) : Bool := decide (bG as).Nodup && (eN as).all fun i => decide (i ∉ bG as)
def dU (cenv : En) : Nat → List Nat → List Nat → En → Option En
 | _, [], _, env => some env
 | n, i :: is, j :: js, env => match cenv[j]? with
  | some (.io n' d) => if n' = n then dU cenv (n + 1) is js (b7 env i d) else none
  | _ => none
 | _, _, _, _ => none
def bO : Nat → List Ag → List Nat
 | _, [] => []
 | n, a :: as => if a.ioOf.isSome then n :: bO (n + 1) as else bO (n + 1) as
def fG (N : List Str) (mf : MS) (a : MG) : En → Option (Md × D × En) := fun env => (a env).bind fun p => if apart p.1 = true then (cE p.2 0 p.1).bind fun ss =>
 (mf (ss ++ List.replicate (N.length - ss.length) .un)).bind fun fl => match fl with
  | .nx cenv => (dU cenv 0 (bG p.1) (bO 0 p.1) p.2).map fun e => (.imm, .non, e)
  | .ret md d cenv => (dU cenv 0 (bG p.1) (bO 0 p.1) p.2).map fun e => (md, d, e)
  | _ => none
 else none
def dH (σ : St) (i : Nat) : Addr := match σ[i]? with
 | some (some (.ref a)) => a
 | _ => 0
theorem ia {σ : St} {i : Nat} {a : Addr} (h : σ[i]? = some (some (.ref a))) : dH σ i = a := by unfold dH; rw [h]
theorem lS {s : Sl} {d : D} (h : s.own? = some d) : s.mut = true ∧ s.top = true := by cases s <;> first | exact ⟨rfl, rfl⟩ | cases h
theorem oC (s : Sl) (d : D) : (s.put d).mut = s.mut ∧ (s.put d).top = s.top := by cases s <;> exact ⟨rfl, rfl⟩
def Behind (Z : Zc) (σ : St) (Ic Hc : Hp) (is : List Nat) (env env' : En) : Prop := env'.length = env.length ∧ ∀ (i : Nat) (s' : Sl), env'[i]? = some s' →
 (i ∉ is ∧ env[i]? = some s') ∨ (i ∈ is ∧ ∃ s d, env[i]? = some s ∧ s.own?.isSome = true ∧ s' = s.put d ∧ ∃ o, Hc (dH σ i) = some o ∧ bu Z.K Z.cl Ic d o)
theorem SR.after {g : G} {env env' : En} {σ : St} {I H Ic Hc : Hp} {is : List Nat} (R : SR Z.K Z.cl g env σ I H) (his : ∀ i ∈ is, ∃ s d, env[i]? = some s ∧ s.own? = some d)
  (hI : Same I Ic) (hsub : Same Ic Hc) (hB0 : ∀ a o, H a = some o → a ∉ is.map (dH σ) → ¬ a9 Z.cl a → Hc a = some o) (hT : ∀ a, a9 Z.cl a → GxR.TabG Hc a) (hC : ∀ a o, H a = some o → I a = none → Ic a = none)
  (hD : ∀ a ∈ is.map (dH σ), ∃ o, Hc a = some o) (hE : Behind Z σ Ic Hc is env env') : SR Z.K Z.cl g env' σ Ic Hc := by
 have hB : ∀ {a : Addr} {o : HO} {d : D} {J : Hp}, H a = some o → a ∉ is.map (dH σ) → bu Z.K Z.cl J d o → Hc a = some o := fun h n r => hB0 _ _ h n (R.noTab h r)
 -- a changed object's address is of a slot
 have adr : ∀ a ∈ is.map (dH σ), ∃ i s d o, i ∈ is ∧ env[i]? = some s ∧ s.own? = some d ∧ σ[i]? = some (some (.ref a)) ∧ H a = some o ∧ I a = none := fun a ha => by
  obtain ⟨i, hi, rfl⟩ := List.mem_map.mp ha
  obtain ⟨s, d, h1, h2⟩ := his i hi
  obtain ⟨b, o, h3, h4, h5, h6⟩ := jw R h1 h2
  rw [ia h3]
  exact ⟨i, s, d, o, hi, h1, h2, h3, h4, h6⟩
 have flags : ∀ (i : Nat) (s' : Sl), env'[i]? = some s' → ∃ s, env[i]? = some s ∧ s'.mut = s.mut ∧ s'.top = s.top := fun i s' h => by
  rcases hE.2 i s' h with ⟨_, h1⟩ | ⟨_, s, d, h1, _, rfl, _⟩
  ·exact ⟨s', h1, rfl, rfl⟩
  ·exact ⟨s, h1, oC s d⟩
 have other : ∀ (i : Nat) (s : Sl) (a : Addr), i ∉ is → env[i]? = some s → s.top = true → σ[i]? = some (some (.ref a)) → a ∉ is.map (dH σ) := fun i s a hi h1 h2 h3 ha => by
  obtain ⟨j, s2, d, o, hj, h4, h5, h6, _⟩ := adr a ha
  exact R.dis j i s2 s a (fun z => hi (by rw [← z]; exact hj)) h4 h1 (lS h5).1 h2 h6 h3
 refine ⟨hsub, R.i0.trans hI, fun a o h1 h2 h9 => ?_, fun a o h1 h2 => ?_, fun a ha => ?_, by rw [hE.1]; exact R.len, fun i s' h => ?_, fun i j s s' a hne h1 h2 m1 m2 => ?_, fun a o hx => ?_, R.ex0, fun a ht => ?_⟩
 rotate_right
 ·obtain ⟨t1, ⟨ps, t2, t3⟩, t4⟩ := R.tb a ht
  exact ⟨hC a _ t2 t1, hT a ht, t4⟩
 ·refine hB0 a o (R.h0 a o h1 h2 h9) (fun ha => ?_) h9
  obtain ⟨i, s, d, o2, _, q1, q2, q3, q4, q5⟩ := adr a ha
  obtain ⟨x, hx, q⟩ := R.at_ i s q1
  rw [q3] at hx; cases hx
  cases s with
  | own d' => obtain ⟨b, v, e, _, _, _, h4⟩ := q; cases e; rw [h4] at h1; cases h1
  | io k d' => obtain ⟨b, v, e, h0, _⟩ := q; cases e; exact h2 (List.mem_of_getElem? h0)
  | un => cases q2
  | imm => cases q2
  | bor => cases q2
  | lck => cases q2
 ·by_cases hO : a ∈ g.O
  ·obtain ⟨⟨o2, q1⟩, q2, _⟩ := R.oh a hO
   exact hC a o2 q1 q2
  ·by_cases ht : a9 Z.cl a
   ·obtain ⟨t1, ⟨ps, t2, t3⟩, t4⟩ := R.tb a ht
    exact hC a _ t2 t1
   ·exact hC a o (R.h0 a o h1 hO ht) (R.hi a o h1 h2)
 ·obtain ⟨⟨o, q1⟩, q2, q3⟩ := R.oh a ha
  refine ⟨?_, hC a o q1 q2, q3⟩
  by_cases h : a ∈ is.map (dH σ)
  ·exact hD a h
  ·by_cases ht : a9 Z.cl a
   ·obtain ⟨ps, t2, t3⟩ := hT a ht
    exact ⟨_, t2⟩
   ·exact ⟨o, hB0 a o q1 h ht⟩
 ·rcases hE.2 i s' h with ⟨hi, h1⟩ | ⟨hi, s, d, h1, h2, rfl, o, h3, h4⟩
  ·obtain ⟨x, hx, q⟩ := R.at_ i s' h1
   refine ⟨x, hx, ?_⟩
   cases s' with
   | un => trivial
   | imm d => obtain ⟨v, rfl, r⟩ := q; exact ⟨v, rfl, r.mono hI⟩
   | bor d => obtain ⟨a, rfl, o, q1, q2⟩ := q; exact ⟨a, rfl, o, hB q1 (other i _ a hi h1 rfl hx) q2, q2.mono hI⟩
   | own d => obtain ⟨a, o, rfl, q1, q2, q3, q4⟩ := q; exact ⟨a, o, rfl, hB q1 (other i _ a hi h1 rfl hx) q2, q2.mono hI, hC a o q1 q3, q4⟩
   | lck d => obtain ⟨a, o, rfl, q1, q2, q3, q4⟩ := q; exact ⟨a, o, rfl, hB q1 (other i _ a hi h1 rfl hx) q2, q2.mono hI, hC a o q1 q3, q4⟩
   | io k d => obtain ⟨a, o, rfl, q0, q1, q2⟩ := q; exact ⟨a, o, rfl, q0, hB q1 (other i _ a hi h1 rfl hx) q2, q2.mono hI⟩
  ·obtain ⟨x, hx, q⟩ := R.at_ i s h1
   refine ⟨x, hx, ?_⟩
   cases s with
   | own d' =>
    obtain ⟨a, v, rfl, q1, q2, q3, q4⟩ := q
    rw [ia hx] at h3
    exact ⟨a, o, rfl, h3, h4, hC a v q1 q3, q4⟩
   | io k d' =>
    obtain ⟨a, v, rfl, q0, q1, q2⟩ := q
    rw [ia hx] at h3
    exact ⟨a, o, rfl, q0, h3, h4⟩
   | un => cases h2
   | imm => cases h2
   | bor => cases h2
   | lck => cases h2
 ·obtain ⟨t, e1, f1, _⟩ := flags i s h1
  obtain ⟨t', e2, _, f2⟩ := flags j s' h2
  exact R.dis i j t t' a hne e1 e2 (by rw [← f1]; exact m1) (by rw [← f2]; exact m2)
 ·obtain ⟨q1, q2, q3⟩ := R.ex a o hx
  have nt : ¬ a9 Z.cl a := fun t => by
   obtain ⟨_, _, v, t4⟩ := R.tb a t
   rw [R.ex0 a o hx] at t4; cases t4
  refine ⟨hB0 a o q1 (fun ha => ?_) nt, hC a o q1 q2, fun i s h ht => ?_⟩
  ·obtain ⟨i, s, d, o2, _, e1, e2, e3, _⟩ := adr a ha
   exact q3 i s e1 (lS e2).2 e3
  ·obtain ⟨t, e1, _, f1⟩ := flags i s h
   exact q3 i t e1 (by rw [← f1]; exact ht)
theorem pL {env : En} {i j : Nat} {d : D} {s : Sl} (h : (b7 env i d)[j]? = some s) : (j ≠ i ∧ env[j]? = some s) ∨ (j = i ∧ ∃ s0, env[i]? = some s0 ∧ s = s0.put d) := by
 unfold b7 at h
 cases e : env[i]? with
 | none =>
  rw [e] at h
  by_cases hj : j = i
  ·subst hj; rw [e] at h; cases h
  ·exact .inl ⟨hj, h⟩
 | some s0 =>
  rw [e] at h
  rcases bW h with ⟨rfl, _, rfl⟩ | ⟨n, h⟩
  ·exact .inr ⟨rfl, s0, rfl, rfl⟩
  ·exact .inl ⟨n, h⟩
theorem qp (env : En) (i : Nat) (d : D) : (b7 env i d).length = env.length := by
 unfold b7
 split <;> simp
theorem nP {g' : G} {cenv : En} {σc : St} {σ : St} {Ic Hc : Hp} (Rc : SR Z.K Z.cl g' cenv σc Ic Hc) : ∀ (n : Nat) (is js : List Nat) (env env' : En), is.Nodup → dU cenv n is js env = some env' →
  (∀ i ∈ is, ∃ s d, env[i]? = some s ∧ s.own? = some d) → (∀ k i, is[k]? = some i → g'.O[n + k]? = some (dH σ i)) → Behind Z σ Ic Hc is env env'
 | n, [], js, env, env', _, h, _, _ => by
  unfold dU at h
  cases h
  exact ⟨rfl, fun i s h => .inl ⟨by simp, h⟩⟩
 | n, i :: is, [], env, env', _, h, _, _ => by unfold dU at h; cases h
 | n, i :: is, j :: js, env, env', hnd, h, hown, hO => by
  unfold dU at h
  split at h
  ·rename_i n' d hj
   split at h
   ·rename_i hn
    subst hn
    obtain ⟨hi, hnd2⟩ := List.nodup_cons.mp hnd
    have ih := nP Rc (n' + 1) is js (b7 env i d) env' hnd2 h (fun k hk => by
     obtain ⟨s, d', h1, h2⟩ := hown k (List.mem_cons_of_mem _ hk)
     have hne : k ≠ i := fun z => hi (by rw [← z]; exact hk)
     refine ⟨s, d', ?_, h2⟩
     unfold b7
     split
     ·rw [List.getElem?_set_ne (Ne.symm hne)]; exact h1
     ·exact h1) (fun k q hq => by have := hO (k + 1) q (by simpa using hq); rw [← this]; congr 1; omega)
    obtain ⟨hl, hb⟩ := ih
    obtain ⟨x, hx, a, o, rfl, q0, q1, q2⟩ := Rc.at_ j _ hj
    have ha : a = dH σ i := by
     have := hO 0 i rfl
     rw [Nat.add_zero] at this
     rw [this] at q0
     exact (Option.some.inj q0).symm
    refine ⟨by rw [hl, qp], fun k s' hk => ?_⟩
    rcases hb k s' hk with ⟨h1, h2⟩ | ⟨h1, s, d2, h2, h3, h4, h5⟩
    ·rcases pL h2 with ⟨hne, f2⟩ | ⟨hki, s0, f2, f3⟩
     ·exact .inl ⟨by simp [hne, h1], f2⟩
     ·obtain ⟨s, d', e1, e2⟩ := hown i List.mem_cons_self
      rw [f2] at e1; cases e1
      refine .inr ⟨by simp [hki], s0, d, by rw [hki]; exact f2, by rw [e2]; rfl, f3, o, by rw [hki, ← ha]; exact q1, q2⟩
    ·have hne : k ≠ i := fun z => hi (by rw [← z]; exact h1)
     rcases pL h2 with ⟨_, f2⟩ | ⟨z, _⟩
     ·exact .inr ⟨List.mem_cons_of_mem _ h1, s, d2, f2, h3, h4, h5⟩
     ·exact absurd z hne
   ·cases h
  ·cases h
theorem dQ {env : En} : ∀ {as : List Ag} {n : Nat} {ss : List Sl}, cE env n as = some ss → ss.length = as.length
 | [], n, ss, h => by cases h; rfl
 | a :: as, n, ss, h => by
  unfold cE at h
  cases e1 : a.slot env n with
  | none => rw [e1] at h; cases h
  | some s =>
   rw [e1] at h; simp only [Option.bind_some] at h
   cases e2 : cE env (n + (if a.ioOf.isSome then 1 else 0)) as with
   | none => rw [e2] at h; cases h
   | some r => rw [e2] at h; cases h; simp [dQ e2]
theorem gW {env : En} : ∀ {as : List Ag} {n : Nat} {ss : List Sl} {k : Nat} {s : Sl}, cE env n as = some ss → ss[k]? = some s → ∃ a, as[k]? = some a ∧ a.slot env (n + (bG (as.take k)).length) = some s
 | [], n, ss, k, s, h, hk => by cases h; simp at hk
 | a :: as, n, ss, k, s, h, hk => by
  unfold cE at h
  cases e1 : a.slot env n with
  | none => rw [e1] at h; cases h
  | some s1 =>
   rw [e1] at h; simp only [Option.bind_some] at h
   cases e2 : cE env (n + (if a.ioOf.isSome then 1 else 0)) as with
   | none => rw [e2] at h; cases h
   | some r =>
    rw [e2] at h; cases h
    cases k with
    | zero => cases hk; exact ⟨a, rfl, by simpa [bG] using e1⟩
    | succ k =>
     obtain ⟨b, h1, h2⟩ := gW e2 (by simpa using hk)
     refine ⟨b, by simpa using h1, ?_⟩
     have : n + (bG ((a :: as).take (k + 1))).length = n + (if a.ioOf.isSome then 1 else 0) + (bG (as.take k)).length := by
      rw [List.take_succ_cons]
      unfold bG
      rw [List.filterMap_cons]
      cases a.ioOf with
      | none => simp
      | some i => simp; omega
     rw [this]; exact h2
theorem kf : ∀ {as : List Ag} {k i : Nat}, as[k]? = some (.io i) → (bG as)[(bG (as.take k)).length]? = some i
 | [], k, i, h => by simp at h
 | a :: as, 0, i, h => by simp at h; subst h; simp [bG, Ag.ioOf]
 | a :: as, k + 1, i, h => by
  have ih := kf (as := as) (k := k) (i := i) (by simpa using h)
  rw [List.take_succ_cons]
  unfold bG at ih ⊢
  rw [List.filterMap_cons, List.filterMap_cons]
  cases a.ioOf with
  | none => exact ih
  | some j => simpa using ih
theorem cX.get {I : Hp} {σ : St} : ∀ {as : List Ag} {vs : List V} {k : Nat} {a : Ag}, cX Z I σ as vs → as[k]? = some a → ∃ v, vs[k]? = some v ∧ iW Z I σ a v
 | _, _, k, _, .nil, h => by simp at h
 | _, _, 0, _, .cons o os, h => by simp at h; subst h; exact ⟨_, rfl, o⟩
 | _, _, k + 1, _, .cons o os, h => by
  obtain ⟨v, h1, h2⟩ := cX.get (k := k) os (by simpa using h)
  exact ⟨v, by simpa using h1, h2⟩
theorem cX.length {I : Hp} {σ : St} : ∀ {as : List Ag} {vs : List V}, cX Z I σ as vs → as.length = vs.length
 | _, _, .nil => rfl
 | _, _, .cons _ os => by simp [cX.length os]
theorem ti {N : List Str} {mf : MS} {a : MG} {env : En} {md : Md} {d : D} {e : En} (h : fG N mf a env = some (md, d, e)) :
  ∃ as e1 ss fl cenv, a env = some (as, e1) ∧ apart as = true ∧ cE e1 0 as = some ss ∧ mf (ss ++ List.replicate (N.length - ss.length) .un) = some fl ∧ dU cenv 0 (bG as) (bO 0 as) e1 = some e ∧
   ((fl = .nx cenv ∧ md = .imm ∧ d = .non) ∨ fl = .ret md d cenv) := by
 unfold fG at h
 cases q1 : a env with
 | none => rw [q1] at h; cases h
 | some p =>
  rw [q1] at h; simp only [Option.bind_some] at h
  split at h
  ·rename_i hap
   cases q2 : cE p.2 0 p.1 with
   | none => rw [q2] at h; cases h
   | some ss =>
    rw [q2] at h; simp only [Option.bind_some] at h
    cases q3 : mf (ss ++ List.replicate (N.length - ss.length) .un) with
    | none => rw [q3] at h; cases h
    | some fl =>
     rw [q3] at h; simp only [Option.bind_some] at h
     cases fl with
     | nx cenv =>
      dsimp only at h
      cases q4 : dU cenv 0 (bG p.1) (bO 0 p.1) p.2 with
      | none => rw [q4] at h; cases h
      | some e2 => rw [q4] at h; cases h; exact ⟨_, _, ss, _, cenv, rfl, hap, q2, q3, q4, .inl ⟨rfl, rfl, rfl⟩⟩
     | ret md' d' cenv =>
      dsimp only at h
      cases q4 : dU cenv 0 (bG p.1) (bO 0 p.1) p.2 with
      | none => rw [q4] at h; cases h
      | some e2 => rw [q4] at h; cases h; exact ⟨_, _, ss, _, cenv, rfl, hap, q2, q3, q4, .inr rfl⟩
     | bk => cases h
     | ct => cases h
  ·cases h
theorem callee {g : G} {env : En} {σ : St} {I H : Hp} {as : List Ag} {vs : List V} {ss : List Sl} {N : List Str} (R : SR Z.K Z.cl g env σ I H) (ho : cX Z I σ as vs) (hap : apart as = true) (hss : cE env 0 as = some ss) :
  (∀ i ∈ bG as, ∃ s d, env[i]? = some s ∧ s.own? = some d) ∧ SR Z.K Z.cl ⟨I, H, (bG as).map (dH σ), []⟩ (ss ++ List.replicate (N.length - ss.length) .un) (start N vs) I H := by
 unfold apart at hap
 rw [Bool.and_eq_true] at hap
 obtain ⟨hnd, hbor⟩ := hap
 have hnd := of_decide_eq_true hnd
 have own : ∀ i ∈ bG as, ∃ s d, env[i]? = some s ∧ s.own? = some d := fun i hi => by
  unfold bG at hi
  obtain ⟨a, ha, hai⟩ := List.mem_filterMap.mp hi
  obtain ⟨k, hk⟩ := List.getElem?_of_mem ha
  have hkl : k < ss.length := by rw [dQ hss]; exact (List.getElem?_eq_some_iff.mp hk).1
  obtain ⟨b, h1, h2⟩ := gW hss (List.getElem?_eq_getElem hkl)
  rw [hk] at h1; cases h1
  cases a <;> first | (cases hai) | cases hai
  unfold Ag.slot at h2
  dsimp only at h2
  cases e : env[i]? with
  | none => rw [e] at h2; cases h2
  | some s =>
   rw [e] at h2
   simp only [Option.bind_some] at h2
   cases e2 : s.own? with
   | none => rw [e2] at h2; cases h2
   | some d => exact ⟨s, d, rfl, e2⟩
 refine ⟨own, R.sub, Same.refl _, fun a o h _ _ => h, fun a o _ h => h, fun a ha => ?_, ?_, fun k s hk => ?_, fun j k s s' a hne hj hk m1 m2 => ?_, (fun a o h => by cases h), (fun a o h => by cases h), fun a ht => let ⟨t1, t2, _⟩ := R.tb a ht; ⟨t1, t2, let ⟨ps, h, _⟩ := t2; ⟨_, h⟩⟩⟩
 ·obtain ⟨i, hi, rfl⟩ := List.mem_map.mp ha
  obtain ⟨s, d, h1, h2⟩ := own i hi
  obtain ⟨b, o, h3, h4, h5, h6⟩ := jw R h1 h2
  rw [ia h3]
  exact ⟨⟨o, h4⟩, h6, o, h4⟩
 ·unfold L2.start
  rw [List.length_append, List.length_append, List.length_replicate, List.length_replicate, List.length_map, dQ hss, ho.length]
 ·by_cases hkl : k < ss.length
  ·rw [List.getElem?_append_left hkl] at hk
   obtain ⟨a, h1, h2⟩ := gW hss hk
   obtain ⟨v, h3, h4⟩ := ho.get h1
   refine ⟨some v, ?_, ?_⟩
   ·unfold L2.start
    rw [List.getElem?_append_left (by rw [List.length_map, ← ho.length, ← dQ hss]; exact hkl), List.getElem?_map, h3]; rfl
   ·cases h4 with
    | imm r => cases h2; exact ⟨v, rfl, r⟩
    | bor hv =>
     rename_i i
     unfold Ag.slot at h2
     dsimp only at h2
     split at h2
     ·rename_i d e
      cases h2
      obtain ⟨x, hx, u, rfl, r⟩ := R.at_ i _ e
      rw [hv] at hx; cases hx
      exact ⟨v, rfl, r⟩
     ·rename_i s0 hno e
      obtain ⟨x, hx, q⟩ := R.at_ i _ e
      rw [hv] at hx; cases hx
      cases s0 with
      | un => cases h2
      | imm d => exact absurd rfl (hno d)
      | bor d => cases h2; obtain ⟨b, e2, t⟩ := q; cases e2; exact ⟨b, rfl, t⟩
      | own d => cases h2; obtain ⟨b, o, e2, q1, q2, _⟩ := q; cases e2; exact ⟨b, rfl, o, q1, q2⟩
      | lck d => cases h2; obtain ⟨b, o, e2, q1, q2, _⟩ := q; cases e2; exact ⟨b, rfl, o, q1, q2⟩
      | io n d => cases h2; obtain ⟨b, o, e2, _, q1, q2⟩ := q; cases e2; exact ⟨b, rfl, o, q1, q2⟩
     ·cases h2
    | io hv =>
     rename_i i
     unfold Ag.slot at h2
     dsimp only at h2
     cases e : env[i]? with
     | none => rw [e] at h2; cases h2
     | some s0 =>
      rw [e] at h2
      simp only [Option.bind_some] at h2
      cases e2 : s0.own? with
      | none => rw [e2] at h2; cases h2
      | some d =>
       rw [e2] at h2; cases h2
       obtain ⟨b, o, h5, h6, h7, h8⟩ := jw R e e2
       rw [hv] at h5; cases h5
       refine ⟨b, o, rfl, ?_, h6, h7⟩
       have := kf h1
       rw [Nat.zero_add, List.getElem?_map, this]
       show some (dH σ i) = some b
       rw [ia hv]
  ·rw [List.getElem?_append_right (by omega), List.getElem?_replicate] at hk
   split at hk
   ·rename_i hlt
    cases hk
    refine ⟨none, ?_, trivial⟩
    unfold L2.start
    have e1 := ho.length
    have e2 := dQ hss
    rw [List.getElem?_append_right (by rw [List.length_map]; omega), List.getElem?_replicate, List.length_map, if_pos (by omega)]
   ·cases hk
 ·-- two slots at one address
  intro q1 q2
  have low : ∀ (k : Nat) (s : Sl), (ss ++ List.replicate (N.length - ss.length) Sl.un)[k]? = some s → s.top = true → (start N vs)[k]? = some (some (.ref a)) →
    ∃ i ag t, as[k]? = some ag ∧ (ag = .bor i ∨ ag = .io i) ∧ env[i]? = some t ∧ t.top = true ∧ σ[i]? = some (some (.ref a)) ∧ (s.mut = true → ag = .io i ∧ t.mut = true) := fun k s hk ht hv => by
   by_cases hkl : k < ss.length
   ·rw [List.getElem?_append_left hkl] at hk
    obtain ⟨ag, h1, h2⟩ := gW hss hk
    obtain ⟨v, h3, h4⟩ := ho.get h1
    have hv2 : v = .ref a := by
     unfold L2.start at hv
     rw [List.getElem?_append_left (by rw [List.length_map, ← ho.length, ← dQ hss]; exact hkl), List.getElem?_map, h3] at hv
     cases hv; rfl
    subst hv2
    cases h4 with
    | imm r => cases h2; cases ht
    | bor hv3 =>
     rename_i i
     unfold Ag.slot at h2
     dsimp only at h2
     split at h2
     ·cases h2; cases ht
     ·rename_i s0 hno e
      refine ⟨i, _, s0, h1, .inl rfl, e, ?_, hv3, fun hm => ?_⟩
      ·cases s0 <;> first | rfl | (exact absurd rfl (hno _)) | cases h2
      ·cases s0 <;> first | (cases h2; cases hm) | cases h2 | (exact absurd rfl (hno _))
     ·cases h2
    | io hv3 =>
     rename_i i
     unfold Ag.slot at h2
     dsimp only at h2
     cases e : env[i]? with
     | none => rw [e] at h2; cases h2
     | some s0 =>
      rw [e] at h2
      simp only [Option.bind_some] at h2
      cases e2 : s0.own? with
      | none => rw [e2] at h2; cases h2
      | some d => exact ⟨i, _, s0, h1, .inr rfl, e, (lS e2).2, hv3, fun _ => ⟨rfl, (lS e2).1⟩⟩
   ·rw [List.getElem?_append_right (by omega), List.getElem?_replicate] at hk
    split at hk
    ·cases hk; cases ht
    ·cases hk
  have m1t : s.top = true := by cases s <;> first | rfl | cases m1
  obtain ⟨i, ag, t, f1, f2, f3, f4, f5, f6⟩ := low j s hj m1t q1
  obtain ⟨i', ag', t', k1, k2, k3, k4, k5, k6⟩ := low k s' hk m2 q2
  obtain ⟨f7, f8⟩ := f6 m1
  subst f7
  by_cases hii : i = i'
  ·subst hii
   have him : i ∈ bG as := List.mem_filterMap.mpr ⟨_, List.mem_of_getElem? f1, rfl⟩
   rcases k2 with k2 | k2
   ·subst k2
    have hb : i ∈ eN as := List.mem_filterMap.mpr ⟨_, List.mem_of_getElem? k1, rfl⟩
    exact of_decide_eq_true (List.all_eq_true.mp hbor i hb) him
   ·subst k2
    have p1 := kf f1
    have p2 := kf k1
    have p3 : (bG (as.take j)).length = (bG (as.take k)).length := by
     obtain ⟨l1, e1⟩ := List.getElem?_eq_some_iff.mp p1
     obtain ⟨l2, e2⟩ := List.getElem?_eq_some_iff.mp p2
     exact (List.getElem_inj hnd).mp (e1.trans e2.symm)
    have cnt : ∀ (a b : Nat), a < b → as[a]? = some (.io i) → (bG (as.take a)).length < (bG (as.take b)).length := fun a b hab ha => by
     have hal := (List.getElem?_eq_some_iff.mp ha)
     have e1 : as.take b = as.take a ++ (as.drop a).take (b - a) := by
      rw [← List.take_add]; congr 1; omega
     obtain ⟨hal, hae⟩ := hal
     have e2 : as.drop a = .io i :: as.drop (a + 1) := by rw [← hae]; exact List.drop_eq_getElem_cons hal
     rw [e1, e2]
     obtain ⟨c, hc⟩ : ∃ c, b - a = c + 1 := ⟨b - a - 1, by omega⟩
     rw [hc, List.take_succ_cons]
     unfold bG
     rw [List.filterMap_append, List.length_append, List.filterMap_cons]
     show _ < _ + (i :: _).length
     rw [List.length_cons]
     omega
    rcases Nat.lt_trichotomy j k with h | h | h
    ·have := cnt j k h f1; omega
    ·exact hne h
    ·have := cnt k j h k1; omega
  ·exact R.dis i i' t t' a hii f3 k3 f8 k4 f5 k5
end
section
variable {Z : Zc}
theorem tN {g : G} {env : En} {σ : St} {I H : Hp} {as : List Ag} {vs : List V} {ss : List Sl} {N : List Str} {np : Nat} {mf : MS} {fl : Fl} {cenv env' : En} {md : Md} {d : D} {Q : VK} {E : XK}
  (R : SR Z.K Z.cl g env σ I H) (ho : cX Z I σ as vs) (hap : apart as = true) (hss : cE env 0 as = some ss) (hm : mf (ss ++ List.replicate (N.length - ss.length) .un) = some fl) (hb : dU cenv 0 (bG as) (bO 0 as) env = some env')
  (hfl : (fl = .nx cenv ∧ md = .imm ∧ d = .non) ∨ fl = .ret md d cenv) (hnp : as.length = np)
  (k : ∀ Ic Hc v, SR Z.K Z.cl g env' σ Ic Hc → Same I Ic → vX Z g env' σ Ic Hc md d v → Q v Hc) : spM Z.K Z.cl N np mf vs H Q E := by
 obtain ⟨own, Rc⟩ := callee (N := N) R ho hap hss
 refine ⟨by rw [← ho.length]; exact hnp, _, _, I, fl, Rc, hm, ?_⟩
 have hap' := hap
 unfold apart at hap'
 rw [Bool.and_eq_true] at hap'
 have hnd := of_decide_eq_true hap'.1
 have fin : ∀ (σ' : St) (Ic Hc : Hp), SR Z.K Z.cl ⟨I, H, (bG as).map (dH σ), []⟩ cenv σ' Ic Hc → Same I Ic → SR Z.K Z.cl g env' σ Ic Hc := fun σ' Ic Hc Rd s => by
  refine R.after own s Rd.sub (fun a o h1 h2 h3 => Rd.h0 a o h1 h2 h3) (fun a ht => (Rd.tb a ht).2.1) (fun a o h1 h2 => Rd.hi a o h1 h2) (fun a ha => (Rd.oh a ha).1) ?_
  exact nP Rd 0 (bG as) (bO 0 as) env env' hnd hb own fun k i hk => by rw [Nat.zero_add, List.getElem?_map, hk]; rfl
 have newB : ∀ (σ' : St) (Ic Hc : Hp) (p : Addr) (o : HO), SR Z.K Z.cl ⟨I, H, (bG as).map (dH σ), []⟩ cenv σ' Ic Hc → SR Z.K Z.cl g env' σ Ic Hc → New ⟨I, H, (bG as).map (dH σ), []⟩ cenv σ' Ic Hc p o → New g env' σ Ic Hc p o := fun σ' Ic Hc p o Rd Rf n => by
  have hp : H p = none := n.h0
  refine ⟨n.at_, n.i, R.fresh0 hp, fun i s h ht => ?_, fun o' hx => by have := (R.ex p o' hx).1; rw [hp] at this; cases this⟩
  have bh := nP Rd 0 (bG as) (bO 0 as) env env' hnd hb own fun k i hk => by rw [Nat.zero_add, List.getElem?_map, hk]; rfl
  rcases bh.2 i s h with ⟨_, h1⟩ | ⟨_, t, d', h1, _, rfl, _⟩
  ·exact R.slot_ne hp i s h1 ht
  ·exact R.slot_ne hp i t h1 (by rw [← (oC t d').2]; exact ht)
 rcases hfl with ⟨rfl, rfl, rfl⟩ | rfl
 ·intro σ' Ic Hc Rd s
  exact k Ic Hc .non (fin σ' Ic Hc Rd s) s .non
 ·intro σ' Ic Hc v Rd s hr
  have Rf := fin σ' Ic Hc Rd s
  refine k Ic Hc v Rf s ?_
  cases md with
  | imm => exact hr
  | new => obtain ⟨p, o, e, n, r⟩ := hr; exact ⟨p, o, e, newB σ' Ic Hc p o Rd Rf n, r⟩
def ak (N : List Str) (np : Nat) (mf : MS) (a : MG) : ME := fun env => if ((a env).map fun p => p.1.length) = some np then (fG N mf a env).map fun r => (r.2.1, r.2.2) else none
def jJ (N : List Str) (np : Nat) (mf : MS) (a : MG) : ME := fun env => if ((a env).map fun p => p.1.length) = some np then (fG N mf a env).bind fun r => match r.1 with
 | .new => some (r.2.1, r.2.2)
 | .imm => none
 else none
structure FnZ (Z : Zc) (x : Str) (N : List Str) (np : Nat) (mf : MS) : Prop where
 ex : ∃ (f : Addr) (fd : FuncData) (ps : List Str), FnG Z.P Z.w Z.K Z.mg Z.base CX0 Z.k f fd ps (spM Z.K Z.cl N np mf) ∧ Z.mg x = some (.ref f) ∧ PySem.W.keepIn Z.K (.ref f) = true ∧ Binds Z.K fd ps []
theorem ya {N : List Str} {np : Nat} {mf : MS} {t : TA} {a : MG} (h : SG Z t a) : SE Z (tCall (spM Z.K Z.cl N np mf) [] E0 t) (ak N np mf a) := by
 intro g env σ I H Q d env' R hm k
 unfold ak at hm
 split at hm
 ·rename_i hnp
  cases q : fG N mf a env with
  | none => rw [q] at hm; cases hm
  | some r =>
   obtain ⟨md, d', e'⟩ := r
   rw [q] at hm; cases hm
   obtain ⟨as, e1, ss, fl, cenv, h1, h2, h3, h4, h5, h6⟩ := ti q
   rw [h1] at hnp
   refine h g env σ I H _ as e1 R h1 fun vs I1 H1 R1 s1 os => ?_
   rw [List.append_nil]
   refine tN R1 os h2 h3 h4 h5 h6 (Option.some.inj hnp) fun Ic Hc v Rf s hr => ?_
   cases md with
   | imm => exact k v Ic Hc Rf (s1.trans s) hr
   | new =>
    obtain ⟨p, o, rfl, n, r⟩ := hr
    obtain ⟨R2, s2⟩ := Rf.freeze n
    exact k _ _ _ R2 ((s1.trans s).trans s2) (.obj upd_same (r.mono s2))
 ·cases hm
theorem aR {x : Str} {N : List Str} {np : Nat} {mf : MS} {e : Expr} {es : List Expr} {a : MG} {p pos : Pos} (F : FnZ Z x N np mf) (hg : GlZ Z x) (ha : AV Z (e :: es) a) (hdb : (x == ("__debug__" : Str)) = false := by decide)
  (he : ∀ env, starEach (e :: es) env = (false, eval e env) :: starEach es env := by intro _; rfl) (hpl : ∀ env, (backTo pos (starEach es env)).any (·.1) = false := by intro _; rfl) : EV Z (.Call (.Name x p) (e :: es) [] pos) (ak N np mf a) := by
 obtain ⟨f, fd, ps, h1, h2, h3, h4⟩ := F.ex
 obtain ⟨t, a1, a2⟩ := ha
 refine ⟨_, fun X i => FnG.pe (CX := CX0) (k := Z.k) (f := f) (fd := fd) (ps := ps) (E := E0) (sp := spM Z.K Z.cl N np mf) ?_ i.room i.gd (eL i hg) (by rw [i.mg]; exact h2) (by rw [i.K]; exact h3) (by rw [i.K]; exact h4) pass0 (a1 X i) hdb (he _) (hpl _), ya a2⟩
 rw [i.prog, i.w, i.K, i.mg, i.base]; exact h1
end
end Q
namespace Q
open PySem L2
section
variable {Z : Zc}
def isObj (c : String) (m : Str) : D → Bool
 | .obj c' ks _ => decide (c' = c) && decide (m ∉ ks)
 | _ => false
structure MtZ (Z : Zc) (c : String) (m : Str) (N : List Str) (np : Nat) (mf : MS) : Prop where
 ex : ∃ (C f : Addr) (fd : FuncData) (ps : List Str), Z.cl c = some C ∧ Cls Z.K C ∧ Meth Z.K C m f ∧ FnG Z.P Z.w Z.K Z.mg Z.base CX0 Z.k f fd ps (spM Z.K Z.cl N np mf) ∧ Binds Z.K fd ps []
def An (c : String) (m : Str) (a : ME) (r : MG) : MG := fun env => (a env).bind fun p => if isObj c m p.1 = true then (r p.2).map fun q => (.imm p.1 :: q.1, q.2) else none
def wX (c : String) (m : Str) (i : Nat) (r : MG) : MG := fun env => (env[i]?.bind Sl.own?).bind fun d => if isObj c m d = true then (r env).map fun q => (.io i :: q.1, q.2) else none
structure MkZ (Z : Zc) (x : Str) (c : String) (N : List Str) (np : Nat) (mf : MS) : Prop where
 ex : ∃ (k : Nat) (C f : Addr) (fd : FuncData) (ps : List Str), k + 1 ≤ Z.k ∧ Z.cl c = some C ∧ Z.mg x = some (.ref C) ∧ Mk Z.K C f ∧ FnG Z.P Z.w Z.K Z.mg Z.base CX0 k f fd ps (spM Z.K Z.cl N np mf) ∧ Binds Z.K fd ps []
theorem SR.push {K : PySem.W.Frag} {cl : String → Option Addr} {g : G} {env : En} {σ : St} {I H : Hp} {p : Addr} {o : HO} {d : D} (R : SR K cl g env σ I H) (n : New g env σ I H p o) (r : bu K cl I d o) : SR K cl g (env ++ [.own d]) (σ ++ [some (.ref p)]) I H := by
 have get : ∀ (i : Nat) (s : Sl), (env ++ [Sl.own d])[i]? = some s → (i < σ.length ∧ env[i]? = some s ∧ (σ ++ [some (V.ref p)])[i]? = σ[i]?) ∨ (i = σ.length ∧ s = .own d ∧ (σ ++ [some (V.ref p)])[i]? = some (some (.ref p))) := fun i s h => by
  by_cases hi : i < env.length
  ·rw [List.getElem?_append_left hi] at h
   exact .inl ⟨by rw [← R.len]; exact hi, h, List.getElem?_append_left (by rw [← R.len]; exact hi)⟩
  ·rw [List.getElem?_append_right (by omega)] at h
   obtain ⟨h1, h2⟩ := List.getElem?_eq_some_iff.mp h
   have e : i = env.length := by simp at h1; omega
   subst e
   simp at h2
   refine .inr ⟨R.len, h2.symm, ?_⟩
   rw [R.len, List.getElem?_append_right (Nat.le_refl _)]; simp
 refine ⟨R.sub, R.i0, R.h0, R.hi, R.oh, by rw [List.length_append, List.length_append, R.len]; rfl, fun i s h => ?_, fun i j s s' a hne h1 h2 m1 m2 q1 q2 => ?_, fun a u hx => ?_, R.ex0, R.tb⟩
 ·rcases get i s h with ⟨_, h1, h2⟩ | ⟨_, rfl, h2⟩
  ·rw [h2]; exact R.at_ i s h1
  ·exact ⟨_, h2, p, o, rfl, n.at_, r, n.i, n.h0⟩
 ·have mt : s.top = true := by cases s <;> first | rfl | cases m1
  rcases get i s h1 with ⟨_, f1, f2⟩ | ⟨e1, rfl, f2⟩
  ·rcases get j s' h2 with ⟨_, k1, k2⟩ | ⟨_, rfl, k2⟩
   ·exact R.dis i j s s' a hne f1 k1 m1 m2 (by rw [← f2]; exact q1) (by rw [← k2]; exact q2)
   ·rw [k2] at q2; cases q2
    rw [f2] at q1
    exact n.no i s f1 mt q1
  ·rcases get j s' h2 with ⟨_, k1, k2⟩ | ⟨e2, rfl, k2⟩
   ·rw [f2] at q1; cases q1
    rw [k2] at q2
    exact n.no j s' k1 m2 q2
   ·exact hne (e1.trans e2.symm)
 ·obtain ⟨h1, h2, h3⟩ := R.ex a u hx
  refine ⟨h1, h2, fun i s h ht => ?_⟩
  rcases get i s h with ⟨_, f1, f2⟩ | ⟨_, rfl, f2⟩
  ·rw [f2]; exact h3 i s f1 ht
  ·rw [f2]; intro z; cases z; exact n.x u hx
theorem cX.grow {I : Hp} {σ : St} {x : Option V} : ∀ {as : List Ag} {vs : List V}, cX Z I σ as vs → cX Z I (σ ++ [x]) as vs
 | _, _, .nil => .nil
 | _, _, .cons o os => .cons (by
   cases o with
   | imm r => exact .imm r
   | bor h => exact .bor (by rw [List.getElem?_append_left (List.getElem?_eq_some_iff.mp h).1]; exact h)
   | io h => exact .io (by rw [List.getElem?_append_left (List.getElem?_eq_some_iff.mp h).1]; exact h)) (cX.grow os)
def o7 (f : Str) : List Str → List Str
 | [] => [f]
 | k :: ks => if k = f then k :: ks else k :: o7 f ks
def o6 (f : Str) (d : D) : List Str → List D → List D
 | k :: ks, x :: xs => if k = f then d :: xs else x :: o6 f d ks xs
 | _, _ => [d]
def wo (c : String) (f : Str) (i : Nat) (e : ME) : MS := fun env => (e env).bind fun p => (p.2[i]?.bind Sl.own?).bind fun d => match d with
 | .obj c' ks xs => if c' = c ∧ ks.length < 1000 ∧ xs.length < 1000 then some (.nx (b7 p.2 i (.obj c (o7 f ks) (o6 f p.1 ks xs)))) else none
 | _ => none
end
end Q
namespace Q
open PySem L2
section
variable {Z : Zc}
def vl (k : Key) : List Key → Bool
 | [] => false
 | q :: ks => decide (q = k) || vl k ks
def vt (k : Key) (ks : List Key) : List Key := if vl k ks = true then ks else ks ++ [k]
def repl (k : Key) (d : D) : List Key → List D → List D
 | q :: ks, x :: xs => (if q = k then d else x) :: repl k d ks xs
 | _, xs => xs
def wj (k : Key) (d : D) (ks : List Key) (xs : List D) : List D := if vl k ks = true then repl k d ks xs else xs ++ [d]
end
end Q
namespace Q
open PySem L2
section
variable {Z : Zc}
def DA (a : ME) : ME := fun env => (a env).bind fun p => match p.1 with
 | .int i => some (.int (-i), p.2)
 | _ => none
end
structure Pc where
 P : Program
 w : World
 K : PySem.W.Frag
 mg : Str → Option Value
 base : Heap
 cl : String → Option Addr
abbrev Pc.z (c : Pc) (k : Nat) (N : List Str) (sc : Scope) (me : Option (Addr × Addr) := none) : Zc := ⟨c.P, c.w, c.K, c.mg, c.base, N, sc, k, c.cl, true, me⟩
structure FnC (c : Pc) (k : Nat) (x : Str) (N : List Str) (np : Nat) (mf : MS) : Prop where
 ex : ∃ (f : Addr) (fd : FuncData) (ps : List Str), FnG c.P c.w c.K c.mg c.base CX0 k f fd ps (spM c.K c.cl N np mf) ∧ c.mg x = some (.ref f) ∧ PySem.W.keepIn c.K (.ref f) = true ∧ Binds c.K fd ps []
structure MtC (c : Pc) (k : Nat) (cn : String) (m : Str) (N : List Str) (np : Nat) (mf : MS) : Prop where
 ex : ∃ (C f : Addr) (fd : FuncData) (ps : List Str), c.cl cn = some C ∧ Cls c.K C ∧ Meth c.K C m f ∧ FnG c.P c.w c.K c.mg c.base CX0 k f fd ps (spM c.K c.cl N np mf) ∧ Binds c.K fd ps []
structure MkC (c : Pc) (k : Nat) (x : Str) (cn : String) (N : List Str) (np : Nat) (mf : MS) : Prop where
 ex : ∃ (C f : Addr) (fd : FuncData) (ps : List Str), c.cl cn = some C ∧ c.mg x = some (.ref C) ∧ Mk c.K C f ∧ FnG c.P c.w c.K c.mg c.base CX0 k f fd ps (spM c.K c.cl N np mf) ∧ Binds c.K fd ps []
section
variable {c : Pc} {j k np : Nat} {x m : Str} {cn : String} {N M : List Str} {mf : MS} {sc s1 : Scope} {me : Option (Addr × Addr)}
theorem FnC.z (F : FnC c j x M np mf) (h : j ≤ k) : FnZ (c.z k N sc me) x M np mf := let ⟨f, fd, ps, h1, h2⟩ := F.ex; ⟨f, fd, ps, h1.mono h, h2⟩
theorem FnC.zb (F : FnC c j x M np mf) (h : j ≤ k) : FnZ (ZB (c.z k N sc me) s1) x M np mf := let ⟨f, fd, ps, h1, h2⟩ := F.ex; ⟨f, fd, ps, h1.mono h, h2⟩
theorem MtC.z (F : MtC c j cn m M np mf) (h : j ≤ k) : MtZ (c.z k N sc me) cn m M np mf := let ⟨C, f, fd, ps, q1, q2, q3, h1, h2⟩ := F.ex; ⟨C, f, fd, ps, q1, q2, q3, h1.mono h, h2⟩
theorem MtC.zb (F : MtC c j cn m M np mf) (h : j ≤ k) : MtZ (ZB (c.z k N sc me) s1) cn m M np mf := let ⟨C, f, fd, ps, q1, q2, q3, h1, h2⟩ := F.ex; ⟨C, f, fd, ps, q1, q2, q3, h1.mono h, h2⟩
theorem MkC.z (F : MkC c j x cn M np mf) (h : j + 1 ≤ k) : MkZ (c.z k N sc me) x cn M np mf := let ⟨C, f, fd, ps, q1, q2, q3, h1, h2⟩ := F.ex; ⟨j, C, f, fd, ps, h, q1, q2, q3, h1, h2⟩
theorem MkC.zb (F : MkC c j x cn M np mf) (h : j + 1 ≤ k) : MkZ (ZB (c.z k N sc me) s1) x cn M np mf := let ⟨C, f, fd, ps, q1, q2, q3, h1, h2⟩ := F.ex; ⟨j, C, f, fd, ps, h, q1, q2, q3, h1, h2⟩
end
theorem tU (x s : String) (h : s.toList.getLast? ≠ some '#') (e : kD x = s) : False := by
 apply h
 rw [← e]
 unfold kD
 rw [String.toList_append]
 show (x.toList ++ ['#']).getLast? = _
 simp
end Q
namespace Q
open PySem L2
section
variable {Z : Zc}
def pk (env : En) (i : Nat) : Option (List Key × List D) := (env[i]?).bind fun s => (s.own?).bind fun d => match d with
 | .dic ks xs => some (ks, xs)
 | _ => none
def vU (i : Nat) (e j : ME) : MS := fun env => (e env).bind fun p => (pk p.2 i).bind fun _ => (j p.2).bind fun q => (pk q.2 i).bind fun kx => (q.1.key?).bind fun k =>
 if kx.2.length < sizeLine then some (.nx (b7 q.2 i (.dic (vt k kx.1) (wj k p.1 kx.1 kx.2)))) else none
end
end Q
namespace Q
open PySem L2
section
variable {Z : Zc}
def mM1 (f : Str → Str → Option D) (a b : ME) : ME := fun env => (a env).bind fun p => (b p.2).bind fun q => match p.1, q.1 with
 | .str x, .str y => (f x y).map fun d => (d, q.2)
 | _, _ => none
def xT (r : V → List V → Hp → VK → Prop) (f : Str → Str → Option D) : Prop := ∀ (x y : Str) (d : D) (K : PySem.W.Frag) (cl : String → Option Addr) (I H : Hp) (Q : VK), f x y = some d → (∀ p o, H p = none → bu K cl I d o → Q (.ref p) (upd H p o)) → r (.str x) [.str y] H Q
theorem wQ {f : Str → Str → Option D} {a b : ME} {env env' : En} {d : D} (h : mM1 f a b env = some (d, env')) : ∃ x e1 y, a env = some (.str x, e1) ∧ b e1 = some (.str y, env') ∧ f x y = some d := by
 unfold mM1 at h
 obtain ⟨⟨d1, e1⟩, h1, h⟩ := Option.bind_eq_some_iff.mp h
 obtain ⟨⟨d2, e2⟩, h2, h⟩ := Option.bind_eq_some_iff.mp h
 cases d1 with
 | str x =>
  cases d2 with
  | str y =>
   obtain ⟨z, h3, h4⟩ := Option.map_eq_some_iff.mp h
   cases h4
   exact ⟨x, e1, y, h1, h2, h3⟩
  | _ => cases h
 | _ => cases h
theorem AN {id : String} {name : Str} {o e : Expr} {apos pos : Pos} {r : V → List V → Hp → VK → Prop} {f : Str → Str → Option D} {mo me : ME} (slot : Slot "str" name id) (ty : typeOf (.builtin id) = pure (.type "method_descriptor")) (rule : ∀ X : Cx, MtR X id r) (ok : xT r f) (ho : EV Z o mo) (he : EV Z e me)
  (hs : ∀ env, starEach [e] env = [(false, eval e env)] := by intro _; rfl) (hbase : ∀ env, attributeBase o name env (eval o env) = eval o env := by intro _; rfl) (hline : (apos.endLine == pos.line) = true := by rfl) : EF Z (.Call (.Attribute o name apos) [e] [] pos) (mM1 f mo me) := by
 obtain ⟨t, h1, h2⟩ := ho
 obtain ⟨u, j1, j2⟩ := he
 refine ⟨_, fun X i => pe_m1 slot ty (rule X) (h1 X i) (j1 X i) (hs _) (hbase _) hline, fun g env σ I H Q d env' R hm k => ?_⟩
 obtain ⟨x, e1, y, q1, q2, q3⟩ := wQ hm
 refine h2 g env σ I H _ _ _ R q1 fun v I1 H1 R1 s1 rv => ?_
 cases rv.str_inv
 refine ⟨⟨x, rfl⟩, j2 g e1 σ I1 H1 _ _ _ R1 q2 fun w I2 H2 R2 s2 rw' => ?_⟩
 cases rw'.str_inv
 exact ok x y d Z.K Z.cl I2 H2 _ q3 fun p o hp ho => k p o I2 _ (R2.alloc hp _) (s1.trans s2) (R2.new hp) ho
theorem oR {K : PySem.W.Frag} {cl : String → Option Addr} {I : Hp} : ∀ ys : List Str, aI K cl I (ys.map .str) (ys.map V.str)
 | [] => .nil
 | _ :: ys => .cons .str (oR ys)
def cO : Str → Str → Option D := fun x y => if (y.length == 0) = false ∧ x.length + 2 ≤ sizeLine then some (.lst ((Txt.split x y).map .str)) else none
theorem mJ {o e : Expr} {apos pos : Pos} {mo me : ME} (ho : EV Z o mo) (he : EV Z e me) (hs : ∀ env, starEach [e] env = [(false, eval e env)] := by intro _; rfl) (hbase : ∀ env, attributeBase o "split" env (eval o env) = eval o env := by intro _; rfl) (hline : (apos.endLine == pos.line) = true := by rfl) :
  EF Z (.Call (.Attribute o "split" apos) [e] [] pos) (mM1 cO mo me) :=
 AN F.slot_str_split F.type_str_split (fun X => mt_split) (fun x y d K cl I H Q h k => by
  unfold cO at h
  split at h
  ·rename_i hl
   cases h
   exact ⟨x, y, rfl, rfl, hl.1, hl.2, fun p hp => k p _ hp (.lst (oR _))⟩
  ·cases h) ho he hs hbase hline
end
end Q
namespace Q
open PySem L2
section
variable {Z : Zc}
def lR : List D → Option (List Str)
 | [] => some []
 | .str z :: ds => (lR ds).map fun zs => z :: zs
 | _ => none
theorem p7 {K : PySem.W.Frag} {cl : String → Option Addr} {I : Hp} : ∀ {ds : List D} {zs : List Str} {us : List V}, lR ds = some zs → aI K cl I ds us → us = zs.map V.str
 | [], zs, us, h, r => by cases h; cases r; rfl
 | d :: ds, zs, us, h, r => by
  cases d with
  | str z =>
   unfold lR at h
   obtain ⟨zs', h1, rfl⟩ := Option.map_eq_some_iff.mp h
   cases r with
   | cons r1 r2 => cases r1.str_inv; rw [p7 h1 r2]; rfl
  | _ => cases h
def gS (x : Str) (d : D) : Option D := (d.items?).bind fun ds => (lR ds).bind fun zs => if (zs.map (·.length)).sum + zs.length * x.length ≤ 16777216 then some (.str (Txt.join x zs)) else none
def d7 (a : ME) (b : ML) : ME := fun env => (a env).bind fun p => (b p.2).bind fun q => match p.1 with
 | .str x => (q.1.get q.2).bind fun d => (gS x d).map fun z => (z, q.2)
 | _ => none
def yF (K : PySem.W.Frag) : V → List V → Hp → VK → Prop := fun x xs H Q => ∃ a p, ∃ ys : List Str, x = .str a ∧ xs = [.ref p] ∧ (SqL K H p (ys.map V.str) ∨ SqT K H p (ys.map V.str)) ∧ (ys.map (·.length)).sum + ys.length * a.length ≤ 16777216 ∧ Q (.str (Txt.join a ys)) H
theorem iK {o e : Expr} {apos pos : Pos} {mo : ME} {me : ML} (ho : EV Z o mo) (he : LV Z e me) (hs : ∀ env, starEach [e] env = [(false, eval e env)] := by intro _; rfl) (hbase : ∀ env, attributeBase o "join" env (eval o env) = eval o env := by intro _; rfl) (hline : (apos.endLine == pos.line) = true := by rfl) :
  EV Z (.Call (.Attribute o "join" apos) [e] [] pos) (d7 mo me) := by
 obtain ⟨t, h1, h2⟩ := ho
 obtain ⟨u, j1, j2⟩ := he
 refine ⟨tM1 (yF Z.K) t u, fun X i => by have q := pe_join (h1 X i) (j1 X i) (hs _) (hbase _) hline; rw [i.K] at q; exact q, fun g env σ I H Q d env' R hm k => ?_⟩
 unfold d7 at hm
 obtain ⟨⟨d1, e1⟩, q1, hm⟩ := Option.bind_eq_some_iff.mp hm
 obtain ⟨⟨l, e2⟩, q2, hm⟩ := Option.bind_eq_some_iff.mp hm
 cases d1 with
 | str x =>
  obtain ⟨dd, q3, hm⟩ := Option.bind_eq_some_iff.mp hm
  obtain ⟨z, q4, q5⟩ := Option.map_eq_some_iff.mp hm
  cases q5
  unfold gS at q4
  obtain ⟨ds, q6, q4⟩ := Option.bind_eq_some_iff.mp q4
  obtain ⟨zs, q7, q4⟩ := Option.bind_eq_some_iff.mp q4
  split at q4
  ·rename_i hl
   cases q4
   refine h2 g env σ I H _ _ _ R q1 fun v I1 H1 R1 s1 rv => ?_
   cases rv.str_inv
   refine ⟨⟨x, rfl⟩, j2 g e1 σ I1 H1 _ _ _ R1 q2 fun w I2 H2 R2 s2 ow => ?_⟩
   have rb : Rbs Z I2 H2 [dd] [w] := lx (ls := [l]) R2 (.cons ow .nil) (by simp only [fO]; dsimp only at q3; rw [q3]; rfl)
   obtain ⟨w', hw, r⟩ := rb.one
   cases hw
   obtain ⟨a, us, rfl, h3, h4⟩ := r.items R2.sub q6
   have h5 := p7 q7 h4
   subst h5
   exact ⟨x, a, zs, rfl, rfl, h3, hl, k _ I2 H2 R2 (s1.trans s2) .str⟩
  ·cases q4
 | _ => cases hm
end
end Q
namespace Q
open PySem L2
section
variable {Z : Zc}
def uA (p : PyData) : Bool := p.showable && !p.hasDict && decide (p.depth ≤ 60) && decide (p.shown.length ≤ sizeLine)
theorem uA.all {p : PyData} (h : uA p = true) : p.showable = true ∧ p.hasDict = false ∧ p.depth ≤ 60 ∧ p.shown.length ≤ sizeLine := by
 unfold uA at h
 simp only [Bool.and_eq_true, Bool.not_eq_true', decide_eq_true_eq] at h
 exact ⟨h.1.1.1, h.1.1.2, h.1.2, h.2⟩
end
end Q
namespace Q
open PySem L2
section
variable {Z : Zc}
def C2 : D → Option Int
 | .int i => some i
 | .bl b => some (if b = true then 1 else 0)
 | _ => none
def wc : D → Option (List Int)
 | .tup ds => ds.mapM C2
 | _ => none
theorem Rb.dcn {I H : Hp} {ks xs} {v : V} (s : Same I H) (r : Rb Z I H (.dcn ks xs) v) : ∃ c a vs bs us, v = .ref c ∧ H c = some (.ext (Raw a (mY ks bs us))) ∧ dg Z.K H ks bs ∧ aI Z.K Z.cl I xs vs ∧ Vals vs us ∧ ks.length = xs.length ∧ ks.Nodup := by
 rcases r with r | ⟨c, rfl, o, e, r⟩
 ·obtain ⟨c, a, vs, bs, us, rfl, h1, h2, h3⟩ := r.dcn_inv
  exact ⟨c, a, vs, bs, us, rfl, s _ _ h1, h2.mono s, h3⟩
 ·obtain ⟨a, vs, bs, us, rfl, h2, h3⟩ := r.dcn_inv
  exact ⟨c, a, vs, bs, us, rfl, e, h2.mono s, h3⟩
end
def vL {α : Type} (k : List Int) (x : α) : List (List Int) → List α → List α
 | q :: ks, y :: ys => (if q = k then x else y) :: vL k x ks ys
 | _, ys => ys
def putN (k : List Int) (ks : List (List Int)) : List (List Int) := if k ∈ ks then ks else ks ++ [k]
def yz {α : Type} (k : List Int) (x : α) (ks : List (List Int)) (xs : List α) : List α := if k ∈ ks then vL k x ks xs else xs ++ [x]
def zQ (k : List Int) (b : Addr) (ks : List (List Int)) (bs : List Addr) : List Addr := if k ∈ ks then bs else bs ++ [b]
theorem dg.put {K : PySem.W.Frag} {I : Hp} {k : List Int} {b : Addr} {ks : List (List Int)} {bs : List Addr} (h : dg K I ks bs) (hk : mV K I k b) : dg K I (putN k ks) (zQ k b ks bs) := by
 unfold putN zQ
 split
 ·exact h
 ·have : ∀ {ks bs}, dg K I ks bs → dg K I (ks ++ [k]) (bs ++ [b]) := by
   intro ks bs h
   induction h with
   | nil => exact .cons hk .nil
   | cons h t ih => exact .cons h ih
  exact this h
section
variable {Z : Zc}
def pF (env : En) (i : Nat) : Option (List (List Int) × List D) := (env[i]?).bind fun s => (s.own?).bind fun d => match d with
 | .dcn ks xs => some (ks, xs)
 | _ => none
def vO (i : Nat) (e j : ME) : MS := fun env => (e env).bind fun p => (pF p.2 i).bind fun _ => (j p.2).bind fun q => (pF q.2 i).bind fun kx => (wc q.1).bind fun k =>
 if kx.2.length < sizeLine then some (.nx (b7 q.2 i (.dcn (putN k kx.1) (yz k p.1 kx.1 kx.2)))) else none
end
end Q
namespace Q
open PySem PySem.Spec PyProof.Rows L2
namespace Nd
open PySem L2
end Nd
section
open Nd PySem L2
variable {Z : Zc}
theorem mV.mono {K : PySem.W.Frag} {I I' : Hp} {k : List Int} {b : Addr} (s : Same I I') (h : mV K I k b) : mV K I' k b := let ⟨vs, h1, h2⟩ := h; ⟨vs, pw s h1, h2⟩
end
end Q
namespace L2
open PySem PySem.Spec PyProof.Rows
end L2
namespace Q
open PySem PySem.Spec L2
end Q
namespace Q
open PySem L2
section
variable {Z : Zc}
def lF (neg : Bool) (x y : D) : Option D := match y with
 | .lst ys => (toP x).bind fun d => (eO ys).bind fun ds => if (SeqAt.shaped d && SeqAt.shaped (.list ds)) = true then some (.bl (if neg then !(ds.any fun z => PyData.eqv z d) else ds.any fun z => PyData.eqv z d)) else none
 | _ => none
theorem tW {X : Cx} (h : InF Z X) : OpR X (compareOp .In) (rInD Z.K) := by
 rw [← h.K]
 exact op_inD (by have := h.room.un; omega)
theorem vj {neg : Bool} {x y z : D} (h : lF neg x y = some z) : ∃ d ds, toP x = some d ∧ toP y = some (.list ds) ∧ SeqAt.shaped d = true ∧ SeqAt.shaped (.list ds) = true ∧ z = .bl (if neg then !(ds.any fun z => PyData.eqv z d) else ds.any fun z => PyData.eqv z d) := by
 unfold lF at h
 split at h
 ·rename_i ys
  cases e1 : toP x with
  | none => rw [e1] at h; cases h
  | some d =>
   cases e2 : eO ys with
   | none => rw [e1, e2] at h; cases h
   | some ds =>
    rw [e1, e2] at h
    simp only [Option.bind_some] at h
    split at h
    ·rename_i hs
     rw [Bool.and_eq_true] at hs
     cases h
     exact ⟨d, ds, rfl, by unfold toP; rw [e2]; rfl, hs.1, hs.2, rfl⟩
    ·cases h
 ·cases h
theorem uf : cx Z (rInD Z.K) (lF false) := by
 intro I H x y z vx vy Q s rx ry h k
 obtain ⟨d, ds, h1, h2, h3, h4, rfl⟩ := vj h
 exact ⟨d, ds, rx.dp s h1, ry.dp s h2, h3, h4, k _ .bl⟩
end
end Q
namespace Q
open PySem L2
end Q
namespace Q
open PySem L2
end Q
namespace Q
open PySem L2
end Q
namespace Q
open PySem L2
end Q
namespace Q
open PySem PySem.Spec PyProof.Rows L2
section
variable {prog : Program} {w : World} {A : Around} {E : Value → Shared → Prop} {s : Shared}
theorem ue {a : Addr} {Q : Option Obj → Shared → Prop} (h : Q (s.heap.get? a) s) : wpAny (model prog w) A (loadIfAlive a) Q E s := fun _ _ _ => h
theorem pa {z u v T : Addr} {f : Bool} {Q : Bool → Shared → Prop} (hz : IsZipHeld s.heap z u v T f) (hT : s.heap.get? T = none) (h : Q true s) : wpAny (model prog w) A (Builtin.SmallTypes.ownedTupleIsFree (.ref z)) Q E s := by
 unfold Builtin.SmallTypes.ownedTupleIsFree
 refine wpAny_bind (wpAny_field hz rfl (x := rawInt T) rfl ?_)
 show wpAny _ _ (loadIfAlive (Int.toNat (T : Int)) >>= _) _ _ _
 rw [Int.toNat_natCast]
 refine wpAny_bind (ue ?_)
 rw [hT]
 exact wpAny_pure h
theorem tM {z u v T c d l m : Addr} {f : Bool} {i j : Nat} {xs ys : Array Value} {x y a b : Value} {Q : Value → Shared → Prop} (D : ZipApart z u v c d l m) (hz : IsZipHeld s.heap z u v T f) (hT : s.heap.get? T = none) (hu : IsPair s.heap u (.ref c) (.ref d)) (hv : IsPair s.heap v a b)
  (hc : s.heap.IsListIter c l i) (hd : s.heap.IsListIter d m j) (hl : s.heap.IsList l xs) (hm : s.heap.IsList m ys) (hx : xs[i]? = some x) (hy : ys[j]? = some y)
  (hQ : ∀ h', IsZipHeld h' z u v s.heap.objs.size false → IsPair h' v x y → h'.IsListIter c l (i + 1) → h'.IsListIter d m (j + 1) → IsPair h' s.heap.objs.size x y →
   (∀ e o, e ≠ z → e ≠ v → e ≠ c → e ≠ d → s.heap.get? e = some o → h'.get? e = some o) → Q (.ref s.heap.objs.size) { s with heap := h' }) :
  wpAny (model prog w) A (Builtin.«zip.__next__» ⟨[.ref z], []⟩) (fun r t => ∃ q, r = .done (.ret q) ∧ Q q t) E s := by
 show wpAny _ A (field (.ref z) 2 >>= _) _ E s
 refine wpAny_bind (wpAny_field hz rfl (x := Value.bool false) rfl ?_)
 show wpAny _ A (field (.ref z) 3 >>= _) _ E s
 refine wpAny_bind (wpAny_field hz rfl (x := Value.ref u) rfl (wpAny_bind (wpAny_seqItems hu rfl ?_)))
 show wpAny _ A (Builtin.SmallTypes.ownedTupleIsFree (.ref z) >>= _) _ E s
 refine wpAny_bind (pa hz hT ?_)
 simp only [if_true]
 refine wpAny_bind (wpAny_rule (wpAny_bind (wpAny_field hz rfl (x := Value.ref v) rfl (wpAny_bind (wpAny_setField_rec hz (by simp) fun g1 z1 k1 => wpAny_bind ?_)))))
 simp only [List.forIn_cons, List.forIn_nil, List.zipIdx_nil, List.zipIdx_cons]
 refine wpAny_bind (wpAny_bind (wpAny_onRaise ?_))
 show wpAny _ A (Builtin.SmallTypes.nextOf (.ref c) >>= _) _ _ _
 refine wpAny_bind (wpAny_nextOf_list_item (hc.extBut k1.extBut D.i1z) (hl.extBut k1.extBut D.l1z) hx fun g2 c2 k2 => wpAny_pure ?_)
 have v2 : IsPair g2 v a b := k2.extBut _ _ D.TOi1 (k1.extBut _ _ D.TOz hv)
 refine wpAny_bind (wpAny_seqItems v2 rfl (wpAny_bind (wpAny_updateSeq_pair v2 fun g3 v3 k3 => ?_)))
 replace v3 : IsPair g3 v x b := v3
 refine wpAny_bind (wpAny_letGo (wpAny_pure (wpAny_bind (wpAny_bind (wpAny_onRaise ?_)))))
 show wpAny _ A (Builtin.SmallTypes.nextOf (.ref d) >>= _) _ _ _
 have d3 : g3.IsListIter d m j := ((hd.extBut k1.extBut D.i2z).extBut k2.extBut D.i12.symm).extBut k3.extBut D.TOi2.symm
 have m3 : g3.IsList m ys := ((hm.extBut k1.extBut D.l2z).extBut k2.extBut D.l2i1).extBut k3.extBut D.l2TO
 refine wpAny_bind (wpAny_nextOf_list_item d3 m3 hy fun g4 d4 k4 => wpAny_pure ?_)
 have v4 : IsPair g4 v x b := k4.extBut _ _ D.TOi2 v3
 refine wpAny_bind (wpAny_seqItems v4 rfl (wpAny_bind (wpAny_updateSeq_pair v4 fun g5 v5 k5 => ?_)))
 replace v5 : IsPair g5 v x y := v5
 refine wpAny_bind (wpAny_letGo (wpAny_pure (wpAny_pure (wpAny_bind (wpAny_seqItems v5 rfl (wpAny_bind (wpAny_newTuple ?_)))))))
 have sz : g5.objs.size = s.heap.objs.size := by rw [k5.1, k4.1, k3.1, k2.1, k1.1]
 have z5 := k5.extBut _ _ D.TOz.symm (k4.extBut _ _ D.i2z.symm (k3.extBut _ _ D.TOz.symm (k2.extBut _ _ D.i1z.symm z1)))
 have kk : ∀ e o, e ≠ z → e ≠ v → e ≠ c → e ≠ d → s.heap.get? e = some o → g5.get? e = some o := fun e o n1 n2 n3 n4 h =>
  k5.extBut e o n2 (k4.extBut e o n4 (k3.extBut e o n2 (k2.extBut e o n3 (k1.extBut e o n1 h))))
 have c5 : g5.IsListIter c l (i + 1) := ((c2.extBut k3.extBut D.TOi1.symm).extBut k4.extBut D.i12).extBut k5.extBut D.TOi1.symm
 have d5 : g5.IsListIter d m (j + 1) := d4.extBut k5.extBut D.TOi2.symm
 have hzl : z < g5.objs.size := Heap.lt_size z5
 show wpAny _ A (Builtin.SmallTypes.ownedTupleHandOut (.ref z) (.ref g5.objs.size) >>= _) _ E _
 refine wpAny_bind ?_
 unfold Builtin.SmallTypes.ownedTupleHandOut
 have z6 := Heap.get?_push_of_some (Obj.mk (.type "tuple") none (.seq #[x, y]) #[]) z5
 refine wpAny_bind (wpAny_setField_rec (s := { s with heap := _ }) z6 (by simp) fun g7 z7 k7 => wpAny_setField_rec (s := { s with heap := _ }) z7 (by simp) fun g8 z8 k8 => ?_)
 have up : ∀ e o, e ≠ z → g5.get? e = some o → g8.get? e = some o := fun e o n h => k8.extBut e o n (k7.extBut e o n (Heap.get?_push_of_some _ h))
 have t8 : IsPair g8 g5.objs.size x y := k8.extBut _ _ (Nat.ne_of_gt hzl) (k7.extBut _ _ (Nat.ne_of_gt hzl) (Heap.get?_push_size _ rfl))
 replace z8 : IsZipHeld g8 z u v g5.objs.size false := z8
 rw [sz] at z8 t8
 refine wpAny_pure ⟨.ref g5.objs.size, rfl, ?_⟩
 rw [sz]
 exact hQ g8 z8 (up _ _ D.TOz v5) (c5.at fun o e => up _ o D.i1z e) (d5.at fun o e => up _ o D.i2z e) t8 fun e o n1 n2 n3 n4 h => up e o n1 (kk e o n1 n2 n3 n4 h)
theorem vo {z u v T c d l m : Addr} {f : Bool} {i j : Nat} {xs ys : Array Value} {a b : Value} {Q : Fin → Shared → Prop} (hh : A.handled = none) (D : ZipApart z u v c d l m) (hz : IsZipHeld s.heap z u v T f) (hT : s.heap.get? T = none) (hu : IsPair s.heap u (.ref c) (.ref d)) (hv : IsPair s.heap v a b)
  (hc : s.heap.IsListIter c l i) (hd : s.heap.IsListIter d m j) (hl : s.heap.IsList l xs) (hm : s.heap.IsList m ys) (hend : xs[i]? = none ∨ ys[j]? = none)
  (hE : ∀ h' e, (∀ b o, b ≠ z → b ≠ v → b ≠ c → b ≠ d → s.heap.get? b = some o → h'.get? b = some o) → (∃ o, h'.get? e = some o ∧ o.cls = .type "StopIteration") → E (.ref e) { s with heap := h' }) :
  wpAny (model prog w) A (Builtin.«zip.__next__» ⟨[.ref z], []⟩) Q E s := by
 show wpAny _ A (field (.ref z) 2 >>= _) _ E s
 refine wpAny_bind (wpAny_field hz rfl (x := Value.bool false) rfl ?_)
 show wpAny _ A (field (.ref z) 3 >>= _) _ E s
 refine wpAny_bind (wpAny_field hz rfl (x := Value.ref u) rfl (wpAny_bind (wpAny_seqItems hu rfl ?_)))
 show wpAny _ A (Builtin.SmallTypes.ownedTupleIsFree (.ref z) >>= _) _ E s
 refine wpAny_bind (pa hz hT ?_)
 simp only [if_true]
 refine wpAny_bind (wpAny_rule (wpAny_bind (wpAny_field hz rfl (x := Value.ref v) rfl (wpAny_bind (wpAny_setField_rec hz (by simp) fun g1 z1 k1 => wpAny_bind ?_)))))
 simp only [List.forIn_cons, List.forIn_nil, List.zipIdx_nil, List.zipIdx_cons]
 refine wpAny_bind (wpAny_bind (wpAny_onRaise ?_))
 show wpAny _ A (Builtin.SmallTypes.nextOf (.ref c) >>= _) _ _ _
 rcases ho : xs[i]? with _ | x
 ·refine wpAny_bind (wpAny_nextOf_list_end hh (hc.extBut k1.extBut D.i1z) (hl.extBut k1.extBut D.l1z) ho fun g2 e k2 ⟨oe, h1, h2⟩ => ?_)
  have z2 := k2 _ _ D.i1z.symm z1
  have hne : e ≠ z := fun q => by subst q; rw [z2] at h1; cases h1; simp at h2
  exact wpAny_setField_rec z2 (by simp) fun g3 _ k3 => hE g3 e (fun b o n1 _ n3 _ q => k3.extBut _ _ n1 (k2 _ _ n3 (k1.extBut _ _ n1 q))) ⟨oe, k3.extBut _ _ hne h1, h2⟩
 ·have hy : ys[j]? = none := hend.elim (fun q => by rw [ho] at q; cases q) id
  refine wpAny_bind (wpAny_nextOf_list_item (hc.extBut k1.extBut D.i1z) (hl.extBut k1.extBut D.l1z) ho fun g2 c2 k2 => wpAny_pure ?_)
  have v2 : IsPair g2 v a b := k2.extBut _ _ D.TOi1 (k1.extBut _ _ D.TOz hv)
  refine wpAny_bind (wpAny_seqItems v2 rfl (wpAny_bind (wpAny_updateSeq_pair v2 fun g3 v3 k3 => ?_)))
  refine wpAny_bind (wpAny_letGo (wpAny_pure (wpAny_bind (wpAny_bind (wpAny_onRaise ?_)))))
  show wpAny _ A (Builtin.SmallTypes.nextOf (.ref d) >>= _) _ _ _
  have d3 : g3.IsListIter d m j := ((hd.extBut k1.extBut D.i2z).extBut k2.extBut D.i12.symm).extBut k3.extBut D.TOi2.symm
  have m3 : g3.IsList m ys := ((hm.extBut k1.extBut D.l2z).extBut k2.extBut D.l2i1).extBut k3.extBut D.l2TO
  refine wpAny_bind (wpAny_nextOf_list_end hh d3 m3 hy fun g4 e k4 ⟨oe, h1, h2⟩ => ?_)
  have z4 := k4 _ _ D.i2z.symm (k3.extBut _ _ D.TOz.symm (k2.extBut _ _ D.i1z.symm z1))
  have hne : e ≠ z := fun q => by subst q; rw [z4] at h1; cases h1; simp at h2
  exact wpAny_setField_rec z4 (by simp) fun g5 _ k5 => hE g5 e (fun b o n1 n2 n3 n4 q => k5.extBut _ _ n1 (k4 _ _ n4 (k3.extBut _ _ n2 (k2.extBut _ _ n3 (k1.extBut _ _ n1 q))))) ⟨oe, k5.extBut _ _ hne h1, h2⟩
def pP (h : Heap) (z u v : Addr) : Prop := IsZip h z u v .none ∨ ∃ T f, IsZipHeld h z u v T f
theorem pP.item {z u v c d l m : Addr} {i j : Nat} {xs ys : Array Value} {x y a b : Value} {Q : Option Value → Shared → Prop} (D : ZipApart z u v c d l m) (hz : pP s.heap z u v) (hu : IsPair s.heap u (.ref c) (.ref d)) (hv : IsPair s.heap v a b)
  (hc : s.heap.IsListIter c l i) (hd : s.heap.IsListIter d m j) (hl : s.heap.IsList l xs) (hm : s.heap.IsList m ys) (hx : xs[i]? = some x) (hy : ys[j]? = some y)
  (hQ : ∀ h', pP h' z u v → (∃ a b, IsPair h' v a b) → h'.IsListIter c l (i + 1) → h'.IsListIter d m (j + 1) → IsPair h' s.heap.objs.size x y →
   (∀ e o, e ≠ z → e ≠ v → e ≠ c → e ≠ d → s.heap.get? e = some o → h'.get? e = some o) → Q (some (.ref s.heap.objs.size)) { s with heap := h' }) :
  wpAny (model prog w) A (pyNext (.ref z)) Q E s := by
 rcases hz with hz | ⟨T, f, hz⟩
 ·exact wpAny_pyNext_zip_item D hz hu hv hc hd hl hm hx hy fun h' a1 a2 a3 a4 a5 _ a7 => hQ h' (.inr ⟨_, false, a1⟩) ⟨_, _, a2⟩ a3 a4 a5 a7
 ·cases hT : s.heap.get? T with
  | some oT => exact wpAny_pyNext_zip_item_held D hz hT hu hc hd hl hm hx hy fun h' a1 a2 a3 a4 _ a6 => hQ h' (.inr ⟨_, _, a1⟩) ⟨a, b, a6 v _ D.TOz D.TOi1 D.TOi2 hv⟩ a2 a3 a4 fun e o n1 _ n3 n4 q => a6 e o n1 n3 n4 q
  | none =>
   have hTy : s.TypeIs (.ref z) "zip" := ⟨_, hz, rfl⟩
   unfold pyNext
   exact wpAny_bind (wpAny_attempt (wpAny_callSpecial?_slot (name := Str.ofString "__next__") hTy F.slot_zip_next (wpAny_call_entry F.slot_zip_next hTy F.entry_zip_next
    (tM D hz hT hu hv hc hd hl hm hx hy fun h' a1 a2 a3 a4 a5 a6 => wpAny_pure (hQ h' (.inr ⟨_, _, a1⟩) ⟨_, _, a2⟩ a3 a4 a5 a6)) (F.args_zip_next_1 _))))
theorem pP.stop {z u v c d l m : Addr} {i j : Nat} {xs ys : Array Value} {a b : Value} {Q : Option Value → Shared → Prop} (hh : A.handled = none) (D : ZipApart z u v c d l m) (hz : pP s.heap z u v) (hu : IsPair s.heap u (.ref c) (.ref d)) (hv : IsPair s.heap v a b)
  (hc : s.heap.IsListIter c l i) (hd : s.heap.IsListIter d m j) (hl : s.heap.IsList l xs) (hm : s.heap.IsList m ys) (hend : xs[i]? = none ∨ ys[j]? = none)
  (hQ : ∀ h', (∀ e o, e ≠ z → e ≠ v → e ≠ c → e ≠ d → s.heap.get? e = some o → h'.get? e = some o) → Q none { s with heap := h' }) : wpAny (model prog w) A (pyNext (.ref z)) Q E s := by
 rcases hz with hz | ⟨T, f, hz⟩
 ·exact wpAny_pyNext_zip_end hh D hz hu hv hc hd hl hm hend hQ
 ·cases hT : s.heap.get? T with
  | some oT => exact wpAny_pyNext_zip_end_held hh D hz hT hu hc hd hl hm hend fun h' k => hQ h' fun e o n1 _ n3 n4 q => k e o n1 n3 n4 q
  | none =>
   have hTy : s.TypeIs (.ref z) "zip" := ⟨_, hz, rfl⟩
   unfold pyNext
   refine wpAny_bind (wpAny_attempt (wpAny_callSpecial?_slot (name := Str.ofString "__next__") hTy F.slot_zip_next (wpAny_call_entry F.slot_zip_next hTy F.entry_zip_next
    (vo hh D hz hT hu hv hc hd hl hm hend fun h' e hk ⟨o, ho, hc⟩ => ?_) (F.args_zip_next_1 _))))
   exact wpAny_bind (wpAny_isInstance (T := "StopIteration") (b := true) ⟨o, ho, hc⟩ isSubtype_stop (wpAny_pure (hQ _ hk)))
end
end Q
namespace Q
open PySem L2
section
variable {Z : Zc}
def dF : List D → Option D
 | [.int i] => if i.natAbs.log2 < 1920 then some (.str (Str.ofString (toString i))) else none
 | _ => none
def v8 : List V → Hp → VK → Prop := fun xs H Q => ∃ i : Int, xs = [.int i] ∧ i.natAbs.log2 < 1920 ∧ Q (.str (Str.ofString (toString i))) H
theorem eV : i7 Z v8 dF := by
 intro I H xs z vs Q s rs h k
 unfold dF at h
 split at h
 ·split at h
  ·rename_i hl; cases h; obtain ⟨v, rfl, r⟩ := rs.one; cases r.int; exact ⟨_, rfl, hl, k _ .str⟩
  ·cases h
 ·cases h
theorem eX {X : Cx} : CallR X (.type "str") v8 := call_str_int
def gu (a : ME) : ME := fun env => (a env).bind fun p => match p.1 with
 | .str y => if y.length ≤ sizeLine then some (.str y, p.2) else none
 | .int i => if i.natAbs.log2 < 1920 then some (.str (Str.ofString (toString i)), p.2) else none
 | _ => none
theorem qi {e : Expr} {pos : Pos} {m : ME} (h : EV Z e m) : EV Z (.FormattedValue e (-1) none pos) (gu m) := by
 obtain ⟨t, h1, h2⟩ := h
 refine ⟨_, fun X i => pe_fmt (h1 X i), fun g env σ I H Q d env' R hm k => ?_⟩
 unfold gu at hm
 obtain ⟨⟨x, en⟩, e1, hm⟩ := Option.bind_eq_some_iff.mp hm
 refine h2 g env σ I H _ x en R e1 fun v I1 H1 R1 s1 rv => ?_
 dsimp only at hm
 split at hm
 ·split at hm
  ·rename_i y hl
   cases hm
   cases rv.str_inv
   exact .inl ⟨_, rfl, hl, k _ I1 H1 R1 s1 .str⟩
  ·cases hm
 ·split at hm
  ·rename_i i hl
   cases hm
   cases rv.int_inv
   exact .inr ⟨_, rfl, hl, k _ I1 H1 R1 s1 .str⟩
  ·cases hm
 ·cases hm
def mJs : List ME → Str → En → Option (Str × En)
 | [], acc, env => some (acc, env)
 | m :: ms, acc, env => (m env).bind fun p => match p.1 with
  | .str y => if (acc ++ y).length ≤ sizeLine then mJs ms (acc ++ y) p.2 else none
  | _ => none
inductive JV (Z : Zc) : List Expr → List ME → Prop where
 | nil : JV Z [] []
 | cons {e : Expr} {m : ME} {es : List Expr} {ms : List ME} (h : EV Z e m) (r : JV Z es ms) : JV Z (e :: es) (m :: ms)
theorem zT {es : List Expr} {ms : List ME} (h : JV Z es ms) : ∃ ts, (∀ X, InF Z X → PJ X es ts) ∧ ∀ (acc : Str) (g : G) (env : En) (σ : St) (I H : Hp) (Q : Str → Hp → Prop) (out : Str) (env' : En), SR Z.K Z.cl g env σ I H → mJs ms acc env = some (out, env') →
  (∀ I' H', SR Z.K Z.cl g env' σ I' H' → Same I I' → Q out H') → tJs ts acc σ H Q := by
 induction h with
 | nil =>
  refine ⟨[], fun X i => .nil, fun acc g env σ I H Q out env' R hm k => ?_⟩
  cases hm
  exact k I H R (Same.refl _)
 | @cons e m es ms h r ih =>
  obtain ⟨t, h1, h2⟩ := h
  obtain ⟨ts, i1, i2⟩ := ih
  refine ⟨t :: ts, fun X i => .cons (h1 X i) (i1 X i), fun acc g env σ I H Q out env' R hm k => ?_⟩
  unfold mJs at hm
  obtain ⟨⟨x, en⟩, e1, hm⟩ := Option.bind_eq_some_iff.mp hm
  refine h2 g env σ I H _ x en R e1 fun v I1 H1 R1 s1 rv => ?_
  dsimp only at hm
  split at hm
  ·split at hm
   ·rename_i y hl
    cases rv.str_inv
    exact ⟨_, rfl, hl, i2 _ g en σ I1 H1 Q out env' R1 hm fun I2 H2 R2 s2 => k I2 H2 R2 (s1.trans s2)⟩
   ·cases hm
  ·cases hm
def fX (ms : List ME) : ME := fun env => (mJs ms Str.empty env).map fun p => (.str p.1, p.2)
theorem oH {v1 v2 : Expr} {rest : List Expr} {ms : List ME} {pos : Pos} (h : JV Z (v1 :: v2 :: rest) ms) : EV Z (.JoinedStr (v1 :: v2 :: rest) pos) (fX ms) := by
 obtain ⟨ts, h1, h2⟩ := zT h
 refine ⟨_, fun X i => pe_joined (h1 X i), fun g env σ I H Q d env' R hm k => ?_⟩
 unfold fX at hm
 obtain ⟨⟨out, en⟩, e1, hm⟩ := Option.map_eq_some_iff.mp hm
 cases hm
 exact h2 Str.empty g env σ I H _ out en R e1 fun I1 H1 R1 s1 => k _ I1 H1 R1 s1 .str
end
end Q
namespace Q
open PySem PySem.Spec PyProof.Rows L2
section
variable {Z : Zc}
def Ca (a : En → Option (List D × En)) : MI := fun env => (a env).bind fun p => match p.1 with
 | [.str z] => some (fC 0 (signs z), p.2)
 | _ => none
end
end Q
namespace Q
open PySem PySem.Spec PyProof.Rows L2 GenW
abbrev dz (X : Cx) (A : Around) (s : Shared) (H : Hp) (ge : Env) (fp : List Addr) (po : List (Addr × Obj)) : Cx :=
 { X with A := A, s_0 := s, H_0 := H, env := ge, outer := X.stack, stack := ge :: X.stack, ex := fp, fn := fun _ => false, pn := po, xe := fun _ _ => False }
abbrev gB (X : Cx) (scope : Scope) (s : Shared) (code : Value) : Env := genEnv scope (cloFrom X.env.cells scope.names []) s.heap.objs.size code builtinsNs X.env
theorem ve {X : Cx} {pins : List (Addr × Obj)} {σ : L2.St} {H : Hp} {s z : Shared} {scope : Scope} {own : List (Str × Nat)} {fp : List Addr} {A : Around} {code : Value} {a : Addr} {o : Obj} {m : Str → Option Value}
  (J : Inv X pins σ H s) (ok : BlkOk X.N X.env.scope scope own) (nc : ∀ y ∈ scope.names, y.2 ≠ .cell) (hN : X.N.Nodup) (hf : ∀ b ∈ fp, FpOk X pins H b ∧ b < s.heap.objs.size)
  (hA : A.frames = some (gB X scope s code :: X.stack)) (hh : A.handled = none)
  (hos : z.os = s.os) (hb : AllBare z.gens) (kp : ∀ b u, s.heap.get? b = some u → z.heap.get? b = some u) (hn : z.heap.Ns s.heap.objs.size m)
  (ha : z.heap.get? a = some o) (hl : s.heap.objs.size < a) (hd : ∀ v, o.data ≠ .cell v) :
  Inv (dz X A s H (gB X scope s code) fp [(a, o)]) [] (wipe σ (own.map (·.2))) H z := by
 have free : ∀ y ∈ scope.names, y.2 = .free → ∃ c, X.env.cells.lookup y.1 = some c := fun y hy e =>
  (ok.free y hy e).elim (fun k => J.ok.has _ (.inl k)) fun k => J.ok.has _ (.inr k)
 have cm : ∀ {y c}, (gB X scope s code).cells.lookup y = some c → X.env.cells.lookup y = some c ∧ c < s.heap.objs.size := fun {y c} e => by
  have e : (cloFrom X.env.cells scope.names []).lookup y = some c := e
  rcases cloFrom_mem (PySem.mem_of_lookup e) with q | ⟨q, rfl⟩
  ·cases q
  ·obtain ⟨c, hc⟩ := free _ q rfl
   rw [hc]
   obtain ⟨_, r⟩ := J.cell _ _ hc
   exact ⟨rfl, r.lt⟩
 have look : ∀ {y}, scope.names.lookup y = some .free → ∃ c, (gB X scope s code).cells.lookup y = some c ∧ X.env.cells.lookup y = some c := fun {y} q => by
  obtain ⟨c, e⟩ := mem_lookup (cloFrom_has (cells := X.env.cells) (acc := []) (PySem.mem_of_lookup q))
  exact ⟨c, e, (cm e).1⟩
 have nofr : ∀ b, s.heap.objs.size ≤ b → b ∉ frs X.stack := fun b hb q => by
  rcases List.mem_cons.mp (J.stkSub b q) with e | q
  ·have h1 := J.lt
   rw [← e] at h1
   exact Nat.lt_irrefl _ (Nat.lt_of_lt_of_le h1 hb)
  ·exact J.nofs hb q
 have oke : (dz X A s H (gB X scope s code) fp [(a, o)]).Ok := by
  refine ⟨J.ok.mod, ok.kind, J.ok.glob, rfl, Nat.le_refl _, fun y y' c e1 e2 => J.ok.inj y y' c (cm e1).1 (cm e2).1, fun y hy => ?_, (fun _ _ q => by cases q), fun _ => hh, hA, .inr ⟨rfl, rfl⟩, fun b hb => ⟨Nat.ne_of_lt (hf b hb).2, fun y c e q => ?_⟩, J.bs, Nat.le_trans J.ok.bsz J.sz,
   fun b u e q => ?_, fun b hb q => ?_, J.stack, J.stkFree⟩
  ·rcases hy with hy | hy
   ·exact absurd rfl (nc _ (PySem.mem_of_lookup (show scope.names.lookup y = some .cell from hy)))
   ·obtain ⟨c, e, _⟩ := look (show scope.names.lookup y = some .free from hy)
    exact ⟨c, e⟩
  ·exact (hf b hb).1.2.2.2.2.1 y c (cm e).1 q
  ·rcases (hf b q).1.2.2.2.1 with r | r
   ·exact J.ok.noex b u e r
   ·exact absurd (Nat.lt_of_lt_of_le (Heap.lt_size e) (Nat.le_trans J.ok.bsz r)) (Nat.lt_irrefl _)
  ·rcases List.mem_cons.mp (J.stkSub b q) with r | r
   ·exact (hf b hb).1.2.1 r
   ·exact (hf b hb).1.2.2.1 r
 refine ⟨oke, hos, hb, Un.kept kp, ⟨m, hn, fun i y v e1 e2 e3 => ?_⟩, fun y c e => ?_, J.hok.fresh (Nat.le_refl _), fun y c e => J.freeC y c (cm e).1, fun p hp => ?_, J.hok.kept kp, by rw [wipe_length]; exact J.len⟩
 ·obtain ⟨e2, hne⟩ := wipe_some e2
  have own' : ∀ k, scope.names.lookup y = some k → k = .local ∨ k = .cell → False := fun k e hk => by
   rcases ok.own _ (PySem.mem_of_lookup e) hk with q | q
   ·obtain ⟨p, hp, hpy⟩ := List.mem_map.mp q
    have e4 := ok.ix p hp
    rw [show p.1 = y from hpy] at e4
    exact hne (List.mem_map.mpr ⟨p, hp, nodup_ix hN e4 e1⟩)
   ·exact q (List.mem_of_getElem? e1)
  have hfr : scope.names.lookup y = some .free := by
   rcases (show Vis scope y from e3) with q | q | q
   ·exact (own' _ q (.inl rfl)).elim
   ·exact (own' _ q (.inr rfl)).elim
   ·exact q
  obtain ⟨c, h1, h2⟩ := look hfr
  obtain ⟨m0, _, hl0⟩ := J.loc
  have hvis : Vis X.env.scope y := (ok.free _ (PySem.mem_of_lookup hfr) rfl).elim (fun k => .inr (.inl k)) (fun k => .inr (.inr k))
  obtain ⟨w, r, q⟩ := hl0 i y v e1 e2 hvis
  refine ⟨w, r, .inr ⟨.inr hfr, c, h1, ?_⟩⟩
  rcases q with ⟨k, _⟩ | ⟨_, c', e', q⟩
  ·have k : X.env.scope.names.lookup y = some .local := k
   rcases ok.free _ (PySem.mem_of_lookup hfr) rfl with k' | k' <;> rw [show X.env.scope.names.lookup y = _ from k'] at k <;> cases k
  ·rw [h2] at e'; cases e'
   exact q.keeps kp
 ·obtain ⟨w, q⟩ := J.cell y c (cm e).1
  exact ⟨w, q.keeps kp⟩
 ·have hp : p = (a, o) := by simpa using hp
  subst hp
  exact ⟨ha, J.hok.fresh (Nat.le_of_lt hl), Nat.ne_of_gt hl, nofr a (Nat.le_of_lt hl), hd⟩
structure Woken (S : List Addr) (s z : Shared) : Prop where
 os : z.os = s.os
 bare : AllBare z.gens
 keep : ∀ b o, b ∉ S → s.heap.get? b = some o → z.heap.get? b = some o
 own : ∀ b ∈ S, ∃ o, z.heap.get? b = some o ∧ ∀ v, o.data ≠ .cell v
theorem jb {X : Cx} {pins : List (Addr × Obj)} {σ : L2.St} {H : Hp} {s z : Shared} {S : List Addr} (J : Inv X pins σ H s) (hS : ∀ b ∈ S, FpOk X pins H b) (W : Woken S s z) : Inv X pins σ H z := by
 obtain ⟨w1, w2, w3, w4⟩ := W
 obtain ⟨h, g, d, t, o⟩ := z
 have e : o = s.os := w1
 subst e
 have nS : ∀ b u, H b = some u → b ∉ S := fun b u q hb => by rw [(hS b hb).1] at q; cases q
 have nL : X.env.locals ∉ S := fun hb => (hS _ hb).2.1 rfl
 refine J.step (g' := g) (t' := t) (d' := d) (ch := S) (fun b hb => ⟨(hS b hb).2.2.2.1, (hS b hb).2.1, (hS b hb).2.2.2.2.1, (hS b hb).2.2.2.2.2⟩) (fun b u _ _ n q _ => w3 b u n q) (fun b u _ _ n q _ => ⟨u.slots, w3 b u n q⟩) (fun _ _ _ _ n => n)
  (fun b u n q => ⟨u, w3 b u n q⟩) (fun _ _ q => q) (fun _ _ _ q => q) (fun b ps q => ⟨#[], by rw [q]; simp⟩) (fun m ⟨ob, es, ep, q, r⟩ => ⟨ob, es, ep, w3 _ ob nL q, r⟩) (fun b u q => ?_) w2
 refine (J.hok b u q).stay (fun c v hc y => w3 c v ?_ y) (fun _ y => y) fun _ _ y => y
 rcases hc with y | y
 ·rw [y]; exact nS b u q
 ·exact nS c _ y
def GxY {T : Type} (X : Cx) (pins : List (Addr × Obj)) (σ : L2.St) (Lk : T → Shared → Prop) (KK : T → V → Hp → (T → Hp → Prop) → Prop) (a : Addr) (g : Nat) (S : List Addr) : Protocol := fun _ s₀ v s₁ kap =>
 s₁.heap.IsGen a g ∧ (∀ b ∈ S, ∀ o, s₀.heap.get? b = some o → s₁.heap.get? b = some o) ∧ ∃ t y H Nx, Lk t s₀ ∧ RelV y v ∧ Inv X pins σ H s₁ ∧ (∀ b ∈ S, H b = none) ∧ KK t y H Nx ∧ (∀ t', Nx t' H → ∀ z, Woken S s₁ z → Lk t' z → kap (.send .none) z)
def GxR {T : Type} (X : Cx) (pins : List (Addr × Obj)) (σ : L2.St) (Lk : T → Shared → Prop) (QE : T → Hp → Prop) (S : List Addr) : GenEnd := fun _ s₀ r s₁ =>
 ((r = .ok (.ret .none) ∨ r = .ok .next) ∧ (∃ t H, Lk t s₀ ∧ Inv X pins σ H s₁ ∧ (∀ b ∈ S, H b = none) ∧ (∀ b ∈ S, ∀ o, s₀.heap.get? b = some o → s₁.heap.get? b = some o) ∧ QE t H)) ∨ ∃ e, r = .error e ∧ False
def GxT {T : Type} (g : TG) (tt : TT) (te : TE) (vs : List Nat) (σ : L2.St) (J : It) (KK : T → V → Hp → (T → Hp → Prop) → Prop) (QE : T → Hp → Prop) (W : Nat → Nat → T → Hp → Prop) : Prop :=
 ∀ i m t H, W i m t H → (J.stop i H ∧ QE t H) ∨ (J.go i H ∧ ∃ Nx : T → Hp → Prop, (∀ t' H', Nx t' H' → ∃ m', m' < m ∧ W (i + 1) m' t' H') ∧ ∀ x H', J.yld i H x H' → g x (wipe σ vs) H' fun σ2 H2 => wipe σ2 vs = wipe σ vs ∧ tt σ2 H2 fun b H3 =>
  if b = true then te σ2 H3 fun y H4 => KK t y H4 Nx else Nx t H3)
end Q
namespace Q
open PySem PySem.Spec PyProof.Rows L2 GenW
section
variable {X : Cx}
theorem rj {A : Around} {s : Shared} {H H' : Hp} {ge : Env} {fp : List Addr} {po : List (Addr × Obj)} {σ : L2.St} {z : Shared} (J : Inv (dz X A s H ge fp po) [] σ H' z) (hp : ∀ b ∈ fp, ∀ p ∈ po, p.1 ≠ b) (hn : ∀ b ∈ fp, H' b = none) :
  ∀ b ∈ fp, FpOk (dz X A s H ge fp po) [] H' b := fun b hb =>
 ⟨hn b hb, (J.ok.exf b hb).1, J.ok.exfs b hb, .inl hb, (J.ok.exf b hb).2, fun p q => hp b hb p (by simpa using q)⟩
theorem xF {T' : Type} {Lk : T' → Shared → Prop} {pins : List (Addr × Obj)} {σ : L2.St} {s : Shared} {H : Hp} {elt tg iter : Expr} {ifs : List Expr} {scope : Scope} {own : List (Str × Nat)} {pos : Pos} {g : TG} {tt : TT} {te : TE} {A : Around} {ge : Env} {fp : List Addr} {a gn it : Addr} {o : Obj} {tn : Nat → Heap → Prop} {J : It}
  {KK : T' → V → Hp → (T' → Hp → Prop) → Prop} {QE : T' → Hp → Prop} {W : Nat → Nat → T' → Hp → Prop} {S : List Addr}
  (hc : X.calm = true) (T : Turn X.prog X.w X.K tg J fp it tn) (turn : GxT g tt te (own.map (·.2)) σ J KK QE W)
  {A' : Around} (hA' : A.over (.compLoop (.GeneratorExp elt [⟨tg, iter, ifs, 0⟩] scope pos) 0 (.ref it) .none ge) [] = A')
  (pg : PG (dz X A' s H ge fp [(a, o)]) tg g) (pt : PTs (dz X A' s H ge fp [(a, o)]) ifs tt) (pe : PE (dz X A' s H ge fp [(a, o)]) elt te)
  (hco : ge.scope.isCoroutine = false) (hgen : ∀ h : Heap, h.get? a = some o → h.IsGen a gn) (hpo : ∀ b ∈ fp, a ≠ b)
  (hS : ∀ b ∈ S, b ≠ ge.locals ∧ b ∉ frs X.stack ∧ s.heap.objs.size ≤ b ∧ (∀ x c, ge.cells.lookup x = some c → c ≠ b) ∧ a ≠ b ∧ b ∉ fp)
  (back : ∀ H' z, Inv (dz X A' s H ge fp [(a, o)]) [] (wipe σ (own.map (·.2))) H' z → Inv X pins σ H' z) :
  ∀ (m n i : Nat) (t : T') (s₀ z : Shared) (H' : Hp), m < n → Lk t s₀ → Inv (dz X A' s H ge fp [(a, o)]) [] (wipe σ (own.map (·.2))) H' z → tn i z.heap → (∀ b ∈ fp, H' b = none) → (∀ b ∈ S, H' b = none ∧ ∃ u, z.heap.get? b = some u ∧ ∀ v, u.data ≠ .cell v) →
   (∀ b ∈ S, ∀ u, s₀.heap.get? b = some u → z.heap.get? b = some u) → W i m t H' →
   Seg (model X.prog X.w) A (GxR X pins σ Lk QE S) (GxY X pins σ Lk KK a gn S) n s₀ (.compLoop (.GeneratorExp elt [⟨tg, iter, ifs, 0⟩] scope pos) 0 (.ref it) .none ge)
    ((model X.prog X.w).den (.compLoop (.GeneratorExp elt [⟨tg, iter, ifs, 0⟩] scope pos) 0 (.ref it) .none ge)) [] z := by
 intro m
 induction m using Nat.strongRecOn with
 | ind m ih =>
  intro n i t s₀ z H' hmn lk I st nf nS k0 w
  have po' : ∀ b ∈ fp, ∀ p ∈ [(a, o)], p.1 ≠ b := fun b hb p hp => by
   have hp : p = (a, o) := by simpa using hp
   rw [hp]; exact hpo b hb
  have sOk : ∀ {σ' : L2.St} {H1 : Hp} {pn : List (Addr × Obj)}, (∀ p ∈ pn, p.1 ∈ fp) → (∀ b ∈ S, H1 b = none) → ∀ b ∈ S, FpOk (dz X A' s H ge fp [(a, o)]) pn H1 b := fun {σ' H1 pn} hpn hn b hb => by
   obtain ⟨h1, h2, h3, h4, h5, h6⟩ := hS b hb
   refine ⟨hn b hb, h1, h2, .inr h3, h4, fun p hp => ?_⟩
   rcases List.mem_append.mp hp with hp | hp
   ·have hp : p = (a, o) := by simpa using hp
    rw [hp]; exact h5
   ·exact fun e => h6 (by rw [← e]; exact hpn p hp)
  show Seg _ A _ _ n s₀ _ ((compTurn (.GeneratorExp elt [⟨tg, iter, ifs, 0⟩] scope pos) 0 (.ref it) .none ge).onRaise (leaving ge)) [] z
  rw [compTurn_gen, Sem.onRaise_eq_wrap]
  refine seg_bind_wrap (wpAny_standAt (seg_bind_wrap ?_))
  rw [hA']
  rcases turn i m t H' w with ⟨stop, qe⟩ | ⟨go, Nx, hNx, step⟩
  ·-- the end; what the consumer holds is pinned meanwhile
   have I2 := I.pinned (sOk (σ' := σ) (H1 := H') (pn := []) (fun p hp => by cases hp) fun b hb => (nS b hb).1) fun b hb => (nS b hb).2
   have f2 : ∀ b ∈ fp, FpOk (dz X A' s H ge fp [(a, o)]) ([] ++ pinsAt S z.heap) H' b := fun b hb => by
    obtain ⟨f0, f1, f3, f4, f5, f6⟩ := rj I po' nf b hb
    refine ⟨f0, f1, f3, f4, f5, fun p hp => ?_⟩
    rcases List.mem_append.mp hp with hp | hp
    ·exact po' b hb p hp
    ·have hp : p ∈ pinsAt S z.heap := by simpa using hp
     exact fun e => (hS p.1 (of_pinsAt hp).1).2.2.2.2.2 (by rw [e]; exact hb)
   refine thnF (T.done (dz X A' s H ge fp [(a, o)]) rfl rfl rfl hc i _ z _ H' (fun _ _ => False) I2 f2 st stop) fun r z1 ⟨hr, I3⟩ => ?_
   subst hr
   refine seg_end (.ok .next) (.inl ⟨.inr rfl, t, H', lk, back H' z1 (I3.unpinned (pins := [])), fun b hb => (nS b hb).1, fun b hb u e => ?_, qe⟩)
   exact (I3.pin (b, u) (List.mem_append_right _ (List.mem_append_right _ (mem_pinsAt hb (k0 b hb u e))))).1
  ·have I2 := I.pinned (sOk (σ' := σ) (H1 := H') (pn := []) (fun p hp => by cases hp) fun b hb => (nS b hb).1) fun b hb => (nS b hb).2
   have f2 : ∀ b ∈ fp, FpOk (dz X A' s H ge fp [(a, o)]) ([] ++ pinsAt S z.heap) H' b := fun b hb => by
    obtain ⟨f0, f1, f3, f4, f5, f6⟩ := rj I po' nf b hb
    refine ⟨f0, f1, f3, f4, f5, fun p hp => ?_⟩
    rcases List.mem_append.mp hp with hp | hp
    ·exact po' b hb p hp
    ·have hp : p ∈ pinsAt S z.heap := by simpa using hp
     exact fun e => (hS p.1 (of_pinsAt hp).1).2.2.2.2.2 (by rw [e]; exact hb)
   refine thnF (T.item (dz X A' s H ge fp [(a, o)]) rfl rfl rfl hc i _ z _ H' (fun _ _ => False) I2 f2 st go) fun r z1 ⟨u, hr, h1⟩ => ?_
   subst hr
   refine seg_bind_wrap ?_
   rw [hA']
   refine thnF h1 fun _ z2 ⟨x, H2, I3, r3, y3, st3, n3⟩ => ?_
   -- the iterator's objects are pinned from here on, with the consumer's
   have kS : ∀ b ∈ S, ∀ v, z.heap.get? b = some v → z2.heap.get? b = some v ∧ H2 b = none := fun b hb v e =>
    let q := I3.pin (b, v) (List.mem_append_right _ (List.mem_append_right _ (mem_pinsAt hb e)))
    ⟨q.1, q.2.1⟩
   have f3 : ∀ b ∈ fp, FpOk (dz X A' s H ge fp [(a, o)]) ([] ++ pinsAt S z.heap) H2 b := fun b hb => by
    obtain ⟨_, f1, f3, f4, f5, f6⟩ := f2 b hb
    exact ⟨n3 b hb, f1, f3, f4, f5, f6⟩
   have I4 := I3.pinned f3 (T.obj _ _ st3)
   refine seg_bind_wrap ?_
   rw [hA']
   refine thnF (pg.run _ z2 _ H2 x u _ I4 r3 (step x H2 y3)) fun _ z3 ⟨σ3, H3, I5, hw5, q5⟩ => ?_
   refine seg_bind_wrap ?_
   rw [hA']
   refine thnF (pt.run _ z3 σ3 H3 _ I5 q5) fun b z4 ⟨H4, I6, q6⟩ => ?_
   have len3 : (wipe σ (own.map (·.2))).length = σ3.length := by rw [← hw5, wipe_length]
   -- a turn's end: what was pinned is as it was
   have fin : ∀ {z5 : Shared} {H5 : Hp}, Inv (dz X A' s H ge fp [(a, o)]) (([] ++ pinsAt S z.heap) ++ pinsAt fp z2.heap) σ3 H5 z5 →
     Inv (dz X A' s H ge fp [(a, o)]) [] (wipe σ (own.map (·.2))) H5 z5 ∧ tn (i + 1) z5.heap ∧ (∀ b ∈ fp, H5 b = none) ∧ (∀ b ∈ S, H5 b = none ∧ ∃ u, z5.heap.get? b = some u ∧ ∀ v, u.data ≠ .cell v) ∧ (∀ b ∈ S, ∀ v, z.heap.get? b = some v → z5.heap.get? b = some v) := fun {z5 H5} I7 => by
    have pf : ∀ b ∈ fp, ∀ v, z2.heap.get? b = some v → z5.heap.get? b = some v ∧ H5 b = none := fun b hb v e =>
     let q := I7.pin (b, v) (List.mem_append_right _ (List.mem_append_right _ (mem_pinsAt hb e)))
     ⟨q.1, q.2.1⟩
    have pS : ∀ b ∈ S, ∀ v, z.heap.get? b = some v → z5.heap.get? b = some v ∧ H5 b = none := fun b hb v e =>
     let q := I7.pin (b, v) (List.mem_append_right _ (List.mem_append_left _ (List.mem_append_right _ (mem_pinsAt hb e))))
     ⟨q.1, q.2.1⟩
    refine ⟨(I7.unpinned.unpinned (pins := [])).weak len3 (fun j v e => ?_), T.keep _ _ _ st3 fun b hb v e => (pf b hb v e).1, fun b hb => ?_, fun b hb => ?_, fun b hb v e => (pS b hb v e).1⟩
    ·rw [← hw5] at e
     exact (wipe_some e).1
    ·obtain ⟨v, e, _⟩ := T.obj _ _ st3 b hb
     exact (pf b hb v e).2
    ·obtain ⟨_, v, e, d⟩ := nS b hb
     exact ⟨(pS b hb v e).2, v, (pS b hb v e).1, d⟩
   cases b with
   | false =>
    simp only [Bool.false_eq_true, if_false] at q6 ⊢
    obtain ⟨j1, j2, j3, j4, j5⟩ := fin I6
    obtain ⟨m', hm, w'⟩ := hNx t H4 q6
    exact seg_again rfl (ih m' hm n (i + 1) t s₀ z4 H4 (by omega) lk j1 j2 j3 j4 (fun b hb v e => j5 b hb v (k0 b hb v e)) w')
   | true =>
    simp only [if_true] at q6 ⊢
    have hy : ∀ v, yieldOut ge v = yieldValue v := fun v => by simp only [yieldOut, hco, Bool.false_eq_true, if_false]
    simp only [hy]
    rw [Sem.bind_eq_wrap', Sem.bind_eq_wrap', Sem.wrap_wrap, Sem.wrap_wrap]
    refine seg_wrap ?_
    rw [hA']
    refine thnF (pe.run _ z4 σ3 H4 _ I6 q6) fun v z5 ⟨y, H5, I7, r7, q7⟩ => ?_
    obtain ⟨j1, j2, j3, j4, j5⟩ := fin I7
    obtain ⟨n', rfl⟩ : ∃ n', n = n' + 1 := ⟨n - 1, by omega⟩
    refine seg_at (seg_yield rfl rfl rfl ⟨hgen _ (I7.pin (a, o) (List.mem_append_left _ List.mem_cons_self)).1, fun b hb v e => j5 b hb v (k0 b hb v e), t, y, H5, Nx, lk, r7, back H5 z5 j1, fun b hb => (j4 b hb).1, q7, fun t' nx z6 wk lk' => ?_⟩)
    obtain ⟨m', hm, w'⟩ := hNx t' H5 nx
    have sok := sOk (σ' := σ) (H1 := H5) (pn := []) (fun p hp => by cases hp) fun b hb => (j4 b hb).1
    refine seg_again rfl (ih m' hm n' (i + 1) t' z6 z6 H5 (by omega) lk' (jb j1 sok wk) (T.keep _ _ _ j2 fun b hb v e => wk.keep b v (fun hbS => (hS b hbS).2.2.2.2.2 hb) e) j3 (fun b hb => ⟨(j4 b hb).1, wk.own b hb⟩) (fun _ _ _ e => e) w')
end
end Q
namespace Q
open PySem PySem.Spec PyProof.Rows L2 GenW
section
variable {T : Type} {Lk : T → Shared → Prop} {X : Cx} {pins : List (Addr × Obj)} {σ : L2.St} {KK : T → V → Hp → (T → Hp → Prop) → Prop} {QE : T → Hp → Prop} {a : Addr} {g : Nat}
def rY {T : Type} (X : Cx) (A : Around) (pins : List (Addr × Obj)) (σ : L2.St) (Lk : T → Shared → Prop) (KK : T → V → Hp → (T → Hp → Prop) → Prop) (QE : T → Hp → Prop) (a : Addr) (g : Nat) (S : List Addr) (n : Nat) (z : Shared) : Prop :=
 ∃ gs, z.gens[g]? = some gs ∧ gs.Goes (model X.prog X.w) A (GxR X pins σ Lk QE S) (GxY X pins σ Lk KK a g S) n (.send .none) (z.setGen g .running)
theorem sH {s : Shared} {g : Nat} {gs : GenState} (hb : AllBare s.gens) (h : gs.bare = true) : Woken [] s (s.setGen g gs) :=
 ⟨rfl, allBare_setGen hb h, fun _ _ _ e => e, fun b hb => by cases hb⟩
theorem xl {A : Around} {n : Nat} {z : Shared} {S : List Addr} {Q : Option Value → Shared → Prop} {E : Value → Shared → Prop} (hh : A.handled = none) (hd : A.depth < recursionLimit) (hl : z.heap.NoLimit) (hg : z.heap.IsGen a g) (h : rY X A.in1 pins σ Lk KK QE a g S n z)
  (hQ : ∀ v z1 t y H Nx, z1.heap.IsGen a g → Lk t (z.setGen g .running) → (∀ b ∈ S, ∀ o, z.heap.get? b = some o → z1.heap.get? b = some o) → RelV y v → Inv X pins σ H z1 → (∀ b ∈ S, H b = none) → KK t y H Nx →
   (∀ t', Nx t' H → ∃ m, ∀ z2, Woken S z1 z2 → z2.gens = z1.gens → Lk t' (z2.setGen g .running) → n = m + 1 ∧ rY X A.in1 pins σ Lk KK QE a g S m z2) → Q (some v) z1)
  (hN : ∀ z1 t H, Lk t (z.setGen g .running) → (∀ b ∈ S, ∀ o, z.heap.get? b = some o → z1.heap.get? b = some o) → Inv X pins σ H z1 → (∀ b ∈ S, H b = none) → QE t H → Q none z1) : wpAny (model X.prog X.w) A (pyNext (.ref a)) Q E z := by
 obtain ⟨gs, hgs, go⟩ := h
 have gl : g < z.gens.size := (Array.getElem?_eq_some_iff.mp hgs).1
 refine wpAny_gsz (n := g + 1) gl (next_genG (F := fun s₀ s₁ s₂ => (∃ t H, Lk t s₁ ∧ Inv X pins σ H s₂ ∧ (∀ b ∈ S, H b = none) ∧ (∀ b ∈ S, ∀ o, s₁.heap.get? b = some o → s₂.heap.get? b = some o) ∧ QE t H)) (Er := fun _ _ => False) hh hl hd hg hgs go (fun v s₁ gs' hbare hv => ?_) (fun s₁ hp h' hk => ?_) fun e s₁ he => he.elim)
 ·intro hsz
  obtain ⟨h1, hS, t, y, H, Nx, hlk, h2, h3, h3s, h4, h5⟩ := hv
  have sz : g < s₁.gens.size := by
   have q : (s₁.setGen g gs').gens.size = s₁.gens.size := setGen_size _ _ _
   omega
  have I1 := jb (S := []) h3 (fun b hb => by cases hb) (sH (gs := gs') (g := g) h3.bare hbare)
  refine hQ v _ t y H Nx h1 hlk hS h2 I1 h3s h4 fun t' nx => ?_
  cases n with
  | zero => exact ⟨0, fun z2 wk hgen lk => (h5 t' nx (z2.setGen g .running) ⟨wk.os, allBare_setGen wk.bare rfl, fun b o hb e => wk.keep b o hb e, wk.own⟩ lk).elim⟩
  | succ m =>
   refine ⟨m, fun z2 wk hgen lk => ⟨rfl, gs', by rw [hgen]; exact setGen_at sz, h5 t' nx (z2.setGen g .running) ⟨wk.os, allBare_setGen wk.bare rfl, fun b o hb e => wk.keep b o hb e, wk.own⟩ lk⟩⟩
 ·intro _
  obtain ⟨t, H, hlk, h1, h1s, hS, h2⟩ := hp
  exact hN _ t H hlk (fun b hb o e => hk b o (hS b hb o e)) (jb (S := []) h1 (fun b hb => by cases hb) ⟨rfl, allBare_setGen h1.bare rfl, fun b o _ e => hk b o e, fun b hb => by cases hb⟩) h1s h2
def LkU : Unit → Shared → Prop := fun _ _ => True
def rE (stop : Bool) (Q : VK) : Unit → V → Hp → (Unit → Hp → Prop) → Prop := fun _ y H Nx => ∃ c, y = .bl c ∧ (if c = stop then Q (.bl stop) H else Nx () H)
theorem nD {s : Shared} (h : AllBare s.gens) : Woken [] s s := ⟨rfl, h, fun _ _ _ e => e, fun b hb => by cases hb⟩
end
section
variable {X : Cx} {pins : List (Addr × Obj)} {σ : L2.St} {a : Addr} {g : Nat}
theorem ym {Q : VK} {A : Around} (hh : A.handled = none) (hd : A.depth < recursionLimit) :
  ∀ (n : Nat) (H : Hp) (z : Shared), Inv X pins σ H z → z.heap.IsGen a g → rY X A.in1.in1 pins σ LkU (rE true Q) (fun _ H => Q (.bl false) H) a g [] n z →
   codeAny (model X.prog X.w) A (.builtin "any.loop" ⟨[.ref a], []⟩) (fun r z' => ∃ b H', r = .ok (.ret (.bool b)) ∧ Inv X pins σ H' z' ∧ Q (.bl b) H') z := by
 intro n
 induction n using Nat.strongRecOn with
 | ind n ih =>
  intro H z I hg h
  refine codeAny_builtin F.entry_any_loop ?_
  rw [Around.under_plainId F.plain_any_loop _]
  show wpAny _ A.in1 (pyNext (.ref a) >>= _) _ _ z
  refine wpAny_bind (xl (A := A.in1) hh hd I.nolimit hg h (fun v z1 t y H1 Nx hg1 _ _ rv I1 _ hk nx => ?_) fun z1 t H1 _ _ I1 _ q => ?_)
  ·obtain ⟨c, rfl, hk⟩ := hk
   cases rv
   refine wpAny_bind (wpAny_holding (wpAny_truthy_bool (wpAny_bind (wpAny_letGo ?_))))
   cases c with
   | true => exact wpAny_bind (wpAny_rule (wpAny_pure ⟨true, H1, rfl, I1, by simpa using hk⟩))
   | false =>
    obtain ⟨m, at1⟩ := nx () (by simpa using hk)
    obtain ⟨hm, at1⟩ := at1 z1 (nD I1.bare) rfl trivial
    exact wpAny_pure ⟨plainId_quiet F.plain_any_loop _, ih m (by omega) H1 z1 I1 hg1 at1⟩
  ·exact wpAny_bind (wpAny_rule (wpAny_pure ⟨false, H1, rfl, I1, q⟩))
end
end Q
namespace Q
open PySem PySem.Spec PyProof.Rows L2 GenW
section
variable {X : Cx} {pins : List (Addr × Obj)} {σ : L2.St} {H : Hp} {s : Shared}
theorem tR {k : Nat} {A : Around} {e : Expr} {it : Value} {ge : Env} (hr : Room (k + 1) A) (he : ∃ elt gs sc p, e = .GeneratorExp elt gs sc p) : Room k (A.over (.compLoop e 0 it .none ge) []) := by
 obtain ⟨elt, gs, sc, p, rfl⟩ := he
 exact ⟨hr.hd, by have := hr.dp; show A.depth + 0 + 1 + 3 * k + 5 < _; omega, by have := hr.un; show A.units + 0 + 3 + 16 * k + 200 < _; omega⟩
theorem qo {A : Around} {e : Expr} {it : Value} {ge : Env} {l : List Env} (h : A.frames = some l) (he : ∃ elt gs sc p, e = .GeneratorExp elt gs sc p) : (A.over (.compLoop e 0 it .none ge) []).frames = some (ge :: l) := by
 obtain ⟨elt, gs, sc, p, rfl⟩ := he
 show pushEnvs [ge] (pushEnvs [] A.frames) = _
 rw [h]; rfl
theorem tX {A : Around} {e : Expr} {it : Value} {ge : Env} (h : cR A) : cR (A.over (.compLoop e 0 it .none ge) []) := by
 show pushGuards (Code.compLoop e 0 it .none ge).guards (pushGuards [] A.guards) = _
 rw [show (Code.compLoop e 0 it .none ge).guards = [] from rfl]
 exact h
def px {T : Type} (X : Cx) (k : Nat) (pins : List (Addr × Obj)) (σ : L2.St) (KK : T → V → Hp → (T → Hp → Prop) → Prop) (QE : T → Hp → Prop) (t0 : T) (u : Value) (z : Shared) : Prop :=
 ∃ (a : Addr) (g n : Nat) (c : Code) (H : Hp), u = .ref a ∧ z.heap.IsGen a g ∧ z.gens[g]? = some (.fresh c) ∧ Inv X pins σ H z ∧ a < z.heap.objs.size ∧
  ∀ (A : Around) (S : List Addr) (Lk : T → Shared → Prop) (z2 : Shared), Room (k + 1) A → A.frames = some X.stack → cR A → Woken [] z z2 → (∀ b ∈ S, z.heap.objs.size ≤ b ∧ ∃ u, z2.heap.get? b = some u ∧ ∀ v, u.data ≠ .cell v) → Lk t0 z2 →
   Seg (model X.prog X.w) A (GxR X pins σ Lk QE S) (GxY X pins σ Lk KK a g S) n z2 c ((model X.prog X.w).den c) [] z2
theorem w7 {T' : Type} {t0 : T'} {c P : Addr} {k : Nat} {elt tg iter : Expr} {ifs : List Expr} {scope : Scope} {own : List (Str × Nat)} {pos : Pos} {wi : TI} {g : TG} {tt : TT} {te : TE} {KK : T' → V → Hp → (T' → Hp → Prop) → Prop} {QE : T' → Hp → Prop}
  (hc : X.calm = true) (hN : X.N.Nodup) (hr : X.A.depth < recursionLimit) (TB : GxR.TabB X.base X.mg c P) (hcode : X.env.code = .ref c) (hi : PI X tg iter wi) (ok : BlkOk X.N X.env.scope scope own) (nc : ∀ y ∈ scope.names, y.2 ≠ .cell)
  (dot : scope.names.lookup (".0" : Str) = some NameKind.local) (hco : scope.isCoroutine = false)
  (hg : ∀ (A : Around) (s : Shared) (H : Hp) (code : Value) (fp : List Addr) (po : List (Addr × Obj)), Room k A → cR A → PG (dz X A s H (gB X scope s code) fp po) tg g)
  (ht : ∀ (A : Around) (s : Shared) (H : Hp) (code : Value) (fp : List Addr) (po : List (Addr × Obj)), Room k A → cR A → PTs (dz X A s H (gB X scope s code) fp po) ifs tt)
  (he : ∀ (A : Around) (s : Shared) (H : Hp) (code : Value) (fp : List Addr) (po : List (Addr × Obj)), Room k A → cR A → PE (dz X A s H (gB X scope s code) fp po) elt te)
  (hs : ∀ v, genFold iter X.env v = pure v) (I : Inv X pins σ H s)
  (h : wi σ H fun J H1 => GxR.TabG H1 P ∧ ∀ H2, GxR.Tabbed P H1 H2 → ∃ W, (∃ m, W 0 m t0 H2) ∧ GxT g tt te (own.map (·.2)) σ J KK QE W) :
  wpAny (model X.prog X.w) X.A (eval (.GeneratorExp elt [⟨tg, iter, ifs, 0⟩] scope pos) X.env) (px X k pins σ KK QE t0) X.xe s := by
 have free : ∀ y ∈ scope.names, y.2 = .free → ∃ c, X.env.cells.lookup y.1 = some c := fun y hy e =>
  (ok.free y hy e).elim (fun k => I.ok.has _ (.inl k)) fun k => I.ok.has _ (.inr k)
 refine wpAny_GeneratorExp_make hco (closure_ok free) nc dot ok.kind hr ?_ hs
 refine thn (hi.run pins s σ H _ I h) fun xv s1 hx => thn hx fun itv s2 h2 => ?_
 obtain ⟨it, fp, tn, J, H2, e, I2, T, st2, f2, ⟨ps, hP, htr⟩, q⟩ := h2
 subst e
 refine ⟨I2.nolimit, ?_⟩
 have hPs : s2.heap.get? P = some { cls := .none, data := .fields ps } := I2.hok P _ hP
 have cd : PySem.W.CodeHd s2.heap c P := TB.code.keeps fun b u e => I2.bk b u e
 have sz2 : ∀ b ∈ fp, b < s2.heap.objs.size ∧ b ≠ P := fun b hb => by
  obtain ⟨o, e, _⟩ := T.obj _ _ st2 b hb
  exact ⟨Heap.lt_size e, fun z => by have := (f2 b hb).1; rw [z, hP] at this; cases this⟩
 -- behind the code object: the table may have grown
 have cont : ∀ (code : Value) (h3 : Heap) (tk : Nat) (more : Array Value), Heap.ExtBut P s2.heap h3 → s2.heap.objs.size ≤ h3.objs.size → h3.get? P = some { cls := .none, data := .fields (ps ++ more) } → TriplesOk (ps ++ more).toList →
   wpAny (model X.prog X.w) X.A (builtinsFor X.env.globals X.env.builtins) (fun bi s₄ => ∀ h', h'.Ns s₄.heap.objs.size (fun y => if y = ".0" then some (.ref it) else none) → Heap.SameBut s₄.heap.objs.size (s₄.heap.push { cls := .type "frame", data := .dict #[] }) h' →
     px X k pins σ KK QE t0 (.ref h'.objs.size) { s₄ with
      gens := s₄.gens.push (.fresh (.compStart (.GeneratorExp elt [⟨tg, iter, ifs, 0⟩] scope pos) 0 (.ref it) .none (genEnv scope (cloFrom X.env.cells scope.names []) s₄.heap.objs.size code bi X.env))),
      toks := s₄.toks + 1 + 1 + 1,
      heap := h'.push { cls := .type "generator", data := .fields #[.int s₄.gens.size 0, .str "<genexpr>" (s₄.toks + 1), .str (X.env.qual ++ "<genexpr>") (s₄.toks + 1 + 1)] } }) X.xe { s2 with heap := h3, toks := tk } := by
  intro code h3 tk more hx hsz hP3 ht3
  obtain ⟨bm, ob, e1, e2, e3, e4, e5, e6, e7, e8⟩ := TB.bm
  refine wpAny_builtinsFor (m := X.mg) (by rw [I2.ok.glob]; exact (I2.mod.glob.keeps I2.bk).extBut hx TB.gP) e1 e2 (hx _ _ e4 (I2.bk _ _ e5)) e6 e7 e8 ?_
  -- the state with the table, then with the frame and the generator
  have I3 := GxR.inv_tab (more := more) (h' := h3) (g' := s2.gens) (d' := s2.drawn) (t' := tk) I2 hP (fun b u hb e => hx b u hb e) hP3 I2.bare
  generalize hs3 : ({ s2 with heap := h3, gens := s2.gens, drawn := s2.drawn, toks := tk } : Shared) = s3 at I3
  have e3h : s3.heap = h3 := by rw [← hs3]
  have st3 : tn 0 s3.heap := T.keep _ _ _ st2 fun b hb o e => by rw [e3h]; exact hx b o (sz2 b hb).2 e
  generalize hH3 : upd H2 P (.tbl (ps ++ more)) = H3 at I3
  have f3 : ∀ b ∈ fp, FpOk X pins H3 b ∧ b < s3.heap.objs.size := fun b hb => by
   refine ⟨⟨?_, (f2 b hb).2⟩, by rw [e3h]; exact Nat.lt_of_lt_of_le (sz2 b hb).1 hsz⟩
   rw [← hH3, upd_ne (sz2 b hb).2]
   exact (f2 b hb).1
  have hTab : GxR.Tabbed P H2 H3 := by
   rw [← hH3]
   exact ⟨⟨_, upd_same, ht3⟩, fun b hb => upd_ne hb⟩
  obtain ⟨W, ⟨m0, w0⟩, turn⟩ := q H3 hTab
  intro h' hn' hsb
  have keep' : ∀ b o, s3.heap.get? b = some o → h'.get? b = some o := fun b o e => hsb.extBut b o (Nat.ne_of_lt (Heap.lt_size e)) (Heap.get?_push_of_some _ e)
  have szh : h'.objs.size = s3.heap.objs.size + 1 := by rw [hsb.1, Heap.size_push]
  generalize hgo : ({ cls := .type "generator", data := .fields #[.int s3.gens.size 0, .str "<genexpr>" (s3.toks + 1), .str (X.env.qual ++ "<genexpr>") (s3.toks + 1 + 1)] } : Obj) = go
  have keep5 : ∀ b o, s3.heap.get? b = some o → (h'.push go).get? b = some o := fun b o e => Heap.get?_push_of_some _ (keep' b o e)
  have bare5 : AllBare (s3.gens.push (.fresh (.compStart (.GeneratorExp elt [⟨tg, iter, ifs, 0⟩] scope pos) 0 (.ref it) .none (genEnv scope (cloFrom X.env.cells scope.names []) s3.heap.objs.size code builtinsNs X.env)))) := I3.bare.push rfl
  generalize hz : ({ s3 with
      gens := s3.gens.push (.fresh (.compStart (.GeneratorExp elt [⟨tg, iter, ifs, 0⟩] scope pos) 0 (.ref it) .none (genEnv scope (cloFrom X.env.cells scope.names []) s3.heap.objs.size code builtinsNs X.env))),
      toks := s3.toks + 1 + 1 + 1, heap := h'.push go } : Shared) = z
  have zh : z.heap = h'.push go := by rw [← hz]
  have zo : z.os = s3.os := by rw [← hz]
  have zb : AllBare z.gens := by rw [← hz]; exact bare5
  have zgo : z.heap.get? h'.objs.size = some go := by rw [zh]; exact Heap.get?_push_size _ (by rw [← hgo]; rfl)
  have isg : ∀ hh : Heap, hh.get? h'.objs.size = some go → hh.IsGen h'.objs.size s3.gens.size := fun hh e => ⟨go, _, _, e, by rw [← hgo], by rw [← hgo], by rw [← hgo]⟩
  have I5 : Inv X pins σ H3 z := jb (S := []) I3 (fun b hb => by cases hb) ⟨zo, zb, fun b o _ e => by rw [zh]; exact keep5 b o e, fun b hb => by cases hb⟩
  refine ⟨h'.objs.size, s3.gens.size, m0 + 1, _, H3, rfl, isg _ zgo, by rw [← hz]; exact Array.getElem?_push_size .., I5, by rw [zh, Heap.size_push]; exact Nat.lt_succ_self _, fun A S Lk z2 rA fA cA wk hS lk0 => ?_⟩
  have hgen : ∃ elt' gs sc p, (Expr.GeneratorExp elt [⟨tg, iter, ifs, 0⟩] scope pos) = .GeneratorExp elt' gs sc p := ⟨_, _, _, _, rfl⟩
  generalize hge : gB X scope s3 code = ge
  generalize hA' : A.over (.compLoop (.GeneratorExp elt [⟨tg, iter, ifs, 0⟩] scope pos) 0 (.ref it) .none ge) [] = A'
  have rA' : Room k A' := by rw [← hA']; exact tR rA hgen
  have fA' : A'.frames = some (ge :: X.stack) := by rw [← hA']; exact qo fA hgen
  have cA' : cR A' := by rw [← hA']; exact tX cA
  have kp2 : ∀ b u, s3.heap.get? b = some u → z2.heap.get? b = some u := fun b u e => wk.keep b u (by simp) (by rw [zh]; exact keep5 b u e)
  have I6 : Inv (dz X A' s3 H3 ge fp [(h'.objs.size, go)]) [] (wipe σ (own.map (·.2))) H3 z2 := by
   rw [← hge]
   refine ve (m := fun y => if y = ".0" then some (.ref it) else none) I3 ok nc hN f3 (by rw [hge]; exact fA') rA'.hd (wk.os.trans zo) wk.bare kp2 ?_ (wk.keep _ _ (by simp) zgo) (by rw [szh]; exact Nat.lt_succ_self _) (fun v e => by rw [← hgo] at e; cases e)
   have n5 : z.heap.Ns s3.heap.objs.size (fun y => if y = ".0" then some (.ref it) else none) := by rw [zh]; exact hn'.push _
   exact n5.at' fun o e => wk.keep _ o (by simp) e
  have loc : ge.locals = s3.heap.objs.size := by rw [← hge]; rfl
  have zsz : z.heap.objs.size = s3.heap.objs.size + 2 := by rw [zh, Heap.size_push, szh]
  have hS' : ∀ b ∈ S, b ≠ ge.locals ∧ b ∉ frs X.stack ∧ s3.heap.objs.size ≤ b ∧ (∀ x c, ge.cells.lookup x = some c → c ≠ b) ∧ h'.objs.size ≠ b ∧ b ∉ fp := fun b hb => by
   have hb1 := (hS b hb).1
   rw [zsz] at hb1
   have hle : s3.heap.objs.size ≤ b := Nat.le_trans (Nat.le_add_right _ 2) hb1
   refine ⟨by rw [loc]; intro e; rw [e] at hb1; exact absurd (Nat.le_trans (Nat.le_add_right _ 1) hb1) (Nat.not_succ_le_self _), fun q => ?_, hle, fun x cc e z => ?_, by rw [szh]; intro e; rw [← e] at hb1; exact absurd hb1 (Nat.not_succ_le_self _), fun hf => ?_⟩
   ·have q' := I6.ok.frf b q
    rcases List.mem_cons.mp (I3.stkSub b q) with e | q
    ·have h1 := I3.lt
     rw [← e] at h1
     exact Nat.lt_irrefl _ (Nat.lt_of_lt_of_le h1 hle)
    ·exact I3.nofs hle q
   ·rw [← hge] at e
    have e : (cloFrom X.env.cells scope.names []).lookup x = some cc := e
    rcases cloFrom_mem (PySem.mem_of_lookup e) with q | ⟨q, rfl⟩
    ·cases q
    ·obtain ⟨c2, hc2⟩ := free _ q rfl
     obtain ⟨_, r⟩ := I3.cell _ _ hc2
     rw [hc2] at z
     have r' := r.lt
     rw [show c2 = b from z] at r'
     exact Nat.lt_irrefl _ (Nat.lt_of_lt_of_le r' hle)
   ·exact Nat.lt_irrefl _ (Nat.lt_of_lt_of_le (f3 b hf).2 hle)
  have back : ∀ H' z', Inv (dz X A' s3 H3 ge fp [(h'.objs.size, go)]) [] (wipe σ (own.map (·.2))) H' z' → Inv X pins σ H' z' := fun H' z' I' =>
   I3.call' (ch := fp) I'.os I'.base I'.hok I'.bare fun b hb => ⟨(f3 b hb).1.2.2.2.1, (f3 b hb).1.2.1, (f3 b hb).1.2.2.2.2.1, (f3 b hb).1.2.2.2.2.2⟩
  have st6 : tn 0 z2.heap := T.keep _ _ _ st3 fun b hb o e => kp2 b o e
  have nS : ∀ b ∈ S, H3 b = none ∧ ∃ u, z2.heap.get? b = some u ∧ ∀ v, u.data ≠ .cell v := fun b hb => ⟨I3.hok.fresh (hS' b hb).2.2.1, (hS b hb).2⟩
  have loop := xF (s := s3) (H := H3) (gn := s3.gens.size) (Lk := Lk) (KK := KK) (QE := QE) (S := S) hc T turn hA' (by rw [← hge]; exact hg A' s3 H3 code fp _ rA' cA') (by rw [← hge]; exact ht A' s3 H3 code fp _ rA' cA') (by rw [← hge]; exact he A' s3 H3 code fp _ rA' cA')
   (by rw [← hge]; exact hco) isg (fun b hb e => by
    have h9 := (f3 b hb).2
    rw [← e, szh] at h9
    exact absurd h9 (Nat.not_succ_lt_self)) hS' back m0 (m0 + 1) 0 t0 z2 z2 H3 (Nat.lt_succ_self _) lk0 I6 st6 (fun b hb => (f3 b hb).1.1) nS (fun _ _ _ e => e) w0
  have hcs : genEnv scope (cloFrom X.env.cells scope.names []) s3.heap.objs.size code builtinsNs X.env = ge := hge
  rw [hcs]
  show Seg _ A _ _ _ z2 _ ((compStart (.GeneratorExp elt [⟨tg, iter, ifs, 0⟩] scope pos) 0 (.ref it) .none ge).onRaise (leaving ge)) [] z2
  unfold compStart
  rw [Sem.onRaise_eq_wrap]
  show Seg _ A _ _ _ z2 _ (Sem.wrap _ _ _ _ (ask >>= _)) [] z2
  refine seg_bind_wrap (wpAny_askSetting ?_)
  split
  ·exact seg_again rfl loop
  ·refine seg_bind_wrap (wpAny_rule ?_)
   show Seg _ A _ _ _ z2 _ (Sem.wrap _ _ _ _ (standAt iter.pos >>= _)) [] z2
   exact seg_bind_wrap (wpAny_standAt (seg_bind_wrap (T.self _ 0 _ _ _ st6 (seg_again rfl loop))))
 cases hf : codeAmong pos ps.toList with
 | none =>
  refine wpAny_genexprCodeX hcode (cd.code hPs htr) (cd.tab hPs) hf fun c' hh tk hx hge hlt hco' _ htab' _ => ?_
  obtain ⟨o1, vs, f1, tf, fl, tg1, inF, tx, tk1, op, _, _, _, _, _, _, _, _, _, htr2, _⟩ := hco'
  exact cont _ hh tk _ hx (Nat.le_trans hge (Nat.le_of_lt hlt)) htab'.2 htr2
 | some cv =>
  refine wpAny_genexprCode_hit hcode (cd.code hPs htr) hf ?_
  have q := cont cv s2.heap s2.toks #[] (Heap.ExtBut.refl _ _) (Nat.le_refl _) (by rw [Array.append_empty]; exact hPs) (by rw [Array.append_empty]; exact htr)
  exact q
end
end Q
namespace Q
open PySem PySem.Spec PyProof.Rows L2 GenW
section
variable {X : Cx}
def tGx (stop : Bool) (P : Addr) (wi : TI) (g : TG) (tt : TT) (te : TE) (vs : List Nat) : TE := fun σ H Q => wi σ H fun J H1 => GxR.TabG H1 P ∧ ∀ H2, GxR.Tabbed P H1 H2 → ∃ W, (∃ m, W 0 m () H2) ∧ GxT g tt te vs σ J (rE stop Q) (fun _ H => Q (.bl (!stop)) H) W
theorem ud {T : Type} {t0 : T} {k : Nat} {pins : List (Addr × Obj)} {σ : L2.St} {KK : T → V → Hp → (T → Hp → Prop) → Prop} {QE : T → Hp → Prop} {u : Value} {z : Shared} (h : px X k pins σ KK QE t0 u z) {A : Around} (hr : Room (k + 1) A) (fA : A.frames = some X.stack) (cA : cR A) :
  ∃ a g n H, u = .ref a ∧ a < z.heap.objs.size ∧ z.heap.IsGen a g ∧ Inv X pins σ H z ∧ ∀ (S : List Addr) (Lk : T → Shared → Prop) (z2 : Shared), Woken [] z z2 → z2.gens = z.gens → (∀ b ∈ S, z.heap.objs.size ≤ b ∧ ∃ u, z2.heap.get? b = some u ∧ ∀ v, u.data ≠ .cell v) → Lk t0 (z2.setGen g .running) → rY X A pins σ Lk KK QE a g S n z2 := by
 obtain ⟨a, g, n, c, H, rfl, h1, h2, h3, h5, h4⟩ := h
 refine ⟨a, g, n, H, rfl, h5, h1, h3, fun S Lk z2 wk hgen hS lk => ⟨.fresh c, by rw [hgen]; exact h2, rfl, h4 A S Lk _ hr fA cA ⟨wk.os, allBare_setGen wk.bare rfl, fun b o hb e => wk.keep b o hb e, fun b hb => by cases hb⟩ hS lk⟩⟩
theorem wY {c P : Addr} {k : Nat} {elt tg iter : Expr} {ifs : List Expr} {scope : Scope} {own : List (Str × Nat)} {p pos gpos : Pos} {wi : TI} {g : TG} {tt : TT} {te : TE}
  (hc : X.calm = true) (hN : X.N.Nodup) (hr : Room (k + 2) X.A) (gd : cR X.A) (hgl : Gl X "any") (hm : X.mg "any" = none) (TB : GxR.TabB X.base X.mg c P) (hcode : X.env.code = .ref c) (hi : PI X tg iter wi) (ok : BlkOk X.N X.env.scope scope own) (nc : ∀ y ∈ scope.names, y.2 ≠ .cell)
  (dot : scope.names.lookup (".0" : Str) = some NameKind.local) (hco : scope.isCoroutine = false)
  (hg : ∀ (A : Around) (s : Shared) (H : Hp) (code : Value) (fp : List Addr) (po : List (Addr × Obj)), Room k A → cR A → PG (dz X A s H (gB X scope s code) fp po) tg g)
  (ht : ∀ (A : Around) (s : Shared) (H : Hp) (code : Value) (fp : List Addr) (po : List (Addr × Obj)), Room k A → cR A → PTs (dz X A s H (gB X scope s code) fp po) ifs tt)
  (he : ∀ (A : Around) (s : Shared) (H : Hp) (code : Value) (fp : List Addr) (po : List (Addr × Obj)), Room k A → cR A → PE (dz X A s H (gB X scope s code) fp po) elt te)
  (hs : ∀ v, genFold iter X.env v = pure v)
  (hst : starEach [.GeneratorExp elt [⟨tg, iter, ifs, 0⟩] scope gpos] X.env = (false, eval (.GeneratorExp elt [⟨tg, iter, ifs, 0⟩] scope gpos) X.env) :: starEach [] X.env := by rfl) :
  PE X (.Call (.Name "any" p) [.GeneratorExp elt [⟨tg, iter, ifs, 0⟩] scope gpos] [] pos) (tGx true P wi g tt te (own.map (·.2))) := by
 refine ⟨fun pins s σ H Q I h => wpAny_Call_Name_kw (ld_blt I hgl hm boot_any (PyProof.Rows.callWith_builtin1 ?_ hst (by rfl)))⟩
 rw [hst]
 show wpAny _ _ (spliced ((false, eval (.GeneratorExp elt [⟨tg, iter, ifs, 0⟩] scope gpos) X.env) :: backTo pos (starEach [] X.env))) _ _ s
 refine Calls.spliced_cons (wpAny_mono (w7 (t0 := ()) (KK := rE true Q) (QE := fun _ H => Q (.bl false) H) hc hN (by have := hr.dp; omega) TB hcode hi ok nc dot hco hg ht he hs I h) (fun u z hz => Calls.spliced_nil ?_) fun _ _ e => e)
 have rA : Room (k + 1) X.A.in1.in1 := ⟨hr.hd, by have := hr.dp; show X.A.depth + 3 * (k + 1) + 5 < _; omega, by have := hr.un; show X.A.units + 1 + 1 + 16 * (k + 1) + 200 < _; omega⟩
 obtain ⟨a, gn, n, H1, rfl, _, hgen, I1, hat⟩ := ud hz rA I.ok.frames gd
 have hat := hat [] LkU z (nD I1.bare) rfl (fun b hb => by cases hb) trivial
 refine call_function_tree F.kind_any F.plain_any F.entry_any (F.args_any1 _) ?_
 unfold Builtin.«any»
 refine wpAny_bind (m := oneArg "any" _) (wpAny_pure ?_)
 refine wpAny_bind (wpAny_pyIter_gen hgen ?_)
 refine wpAny_pure ⟨plainId_quiet F.plain_any_loop _, codeAny_mono (ym hr.hd (by have := hr.dp; omega) n H1 z I1 hgen hat) fun r z' hq => ?_⟩
 obtain ⟨b, H', rfl, I', q⟩ := hq
 exact ⟨.bl b, H', I', rfl, q⟩
end
section
variable {K : PySem.W.Frag} {cl : String → Option Addr} {g : G} {env : En} {σ : L2.St} {I H H' : Hp} {P : Addr}
theorem SR.tabbed (R : SR K cl g env σ I H) (hP : a9 cl P) (t : GxR.Tabbed P H H') : SR K cl g env σ I H' := by
 obtain ⟨t1, t2⟩ := t
 obtain ⟨p1, p2, p3⟩ := R.tb P hP
 have keep : ∀ a o, H a = some o → (∀ ps, o ≠ .tbl ps) → H' a = some o := fun a o e n => by
  rw [t2 a fun z => ?_]; exact e
  obtain ⟨ps, q, _⟩ := p2
  rw [z, q] at e
  exact n ps (Option.some.inj e).symm
 have ko : ∀ a o d, H a = some o → bu K cl I d o → H' a = some o := fun a o d e r => keep a o e fun ps z => r.notTab z
 have tn : ∀ a, a ≠ P → H' a = H a := t2
 refine ⟨fun a o e => ?_, R.i0, fun a o h n nt => ?_, R.hi, fun a h => ?_, R.len, fun i sl h => ?_, R.dis, fun a o h => ?_, R.ex0, fun a h => ?_⟩
 ·rw [tn a fun z => by rw [z, p1] at e; cases e]; exact R.sub a o e
 ·rw [tn a fun z => nt (z ▸ hP)]; exact R.h0 a o h n nt
 ·obtain ⟨⟨o, h1⟩, h2, h3⟩ := R.oh a h
  by_cases z : a = P
  ·obtain ⟨ps, q, _⟩ := t1
   exact ⟨⟨_, by rw [z]; exact q⟩, h2, h3⟩
  ·exact ⟨⟨o, by rw [tn a z]; exact h1⟩, h2, h3⟩
 ·obtain ⟨x, hx, q⟩ := R.at_ i sl h
  refine ⟨x, hx, ?_⟩
  cases sl with
  | un => trivial
  | imm d => exact q
  | bor d => obtain ⟨a, e, o, h1, h2⟩ := q; exact ⟨a, e, o, ko a o d h1 h2, h2⟩
  | own d => obtain ⟨a, o, e, h1, h2⟩ := q; exact ⟨a, o, e, ko a o d h1 h2.1, h2⟩
  | lck d => obtain ⟨a, o, e, h1, h2⟩ := q; exact ⟨a, o, e, ko a o d h1 h2.1, h2⟩
  | io k d => obtain ⟨a, o, e, h0, h1, h2⟩ := q; exact ⟨a, o, e, h0, ko a o d h1 h2, h2⟩
 ·obtain ⟨h1, h2, h3⟩ := R.ex a o h
  by_cases z : a = P
  ·rw [z] at h
   have := R.ex0 P o h
   obtain ⟨u, hu⟩ := p3
   rw [hu] at this; cases this
  ·exact ⟨by rw [tn a z]; exact h1, h2, h3⟩
 ·obtain ⟨h1, h2, h3⟩ := R.tb a h
  by_cases z : a = P
  ·rw [z] at h1 h3 ⊢; exact ⟨h1, t1, h3⟩
  ·obtain ⟨ps, q, r⟩ := h2
   exact ⟨h1, ⟨ps, by rw [tn a z]; exact q, r⟩, h3⟩
end
def fk (stop : Bool) (gf : D → En → Option En) (mt : MT) (me : ME) (vs : List Nat) : List D → En → Option (Bool × En)
 | [], env => some (!stop, env)
 | d :: ds, env => (gf d (bY env vs)).bind fun e1 => (mt e1).bind fun p => if p.1 then (me p.2).bind fun q => match q.1 with
   | .bl c => if c = stop then some (stop, q.2) else fk stop gf mt me vs ds q.2
   | _ => none
  else fk stop gf mt me vs ds p.2
def mGx (stop : Bool) (vs : List Nat) (mi : MI) (gf : D → En → Option En) (mt : MT) (me : ME) : ME := fun env => (mi env).bind fun p => if gc p.2 vs = true then (fk stop gf mt me vs p.1 p.2).map fun q => (.bl q.1, cW p.2 (bY q.2 vs) vs) else none
section
variable {Z : Zc}
def ZG (Z : Zc) (scope : Scope) (k : Nat) : Zc := { Z with sc := scope, all := false, k := k, me := none }
theorem inG {X : Cx} {scope : Scope} {k : Nat} (h : InF Z X) {A : Around} {s : Shared} {H : Hp} {code : Value} {fp : List Addr} {po : List (Addr × Obj)} (hr : Room k A) (hA : cR A) : InF (ZG Z scope k) (dz X A s H (gB X scope s code) fp po) :=
 ⟨h.prog, h.w, h.K, h.mg, h.base, h.N, rfl, h.calm, hr, h.nd, (fun e => Bool.noConfusion (show false = true from e)), PassesOwn.never, hA, fun _ _ e => by cases e⟩
theorem AG {T : Type} {t0 : T} {n : Nat} {J : It} {Gd : Hp → Prop} {Y : Nat → Hp → V → Hp → Prop} {g : TG} {tt : TT} {te : TE} {vs : List Nat} {σ : L2.St} {H1 : Hp} {KK : T → V → Hp → (T → Hp → Prop) → Prop} {QE : T → Hp → Prop} (hw : Walk J n Gd Y) (Pv : Nat → T → Hp → Prop) (h0 : Pv 0 t0 H1) (hl : ∀ i t H, i ≤ n → Pv i t H → Gd H)
  (hs : ∀ i t x H H', i < n → Pv i t H → Y i H x H' → g x (wipe σ vs) H' fun σ2 H2 => wipe σ2 vs = wipe σ vs ∧ tt σ2 H2 fun b H3 => if b = true then te σ2 H3 fun y H4 => KK t y H4 (Pv (i + 1)) else Pv (i + 1) t H3)
  (hd : ∀ t H, Pv n t H → QE t H) : ∃ W, (∃ m, W 0 m t0 H1) ∧ GxT g tt te vs σ J KK QE W := by
 refine ⟨fun j q t C => q + j = n ∧ Pv j t C, ⟨n, rfl, h0⟩, fun j q t C ⟨e, p⟩ => ?_⟩
 have gd := hl j t C (by omega) p
 rcases Nat.eq_zero_or_pos q with z | z
 ·have ej : j = n := by omega
  rw [ej] at p ⊢
  exact .inl ⟨hw.stops C gd, hd t C p⟩
 ·have lt : j < n := by omega
  exact .inr ⟨hw.goes j C lt gd, Pv (j + 1), fun t' C' p' => ⟨q - 1, by omega, by omega, p'⟩, fun x C' y => hs j t x C C' lt p (hw.yields j C x C' lt gd y)⟩
theorem AR {P : Addr} {stop : Bool} {wi : TI} {gt : TG} {tt : TT} {te : TE} {vs : List Nat} {mi : MI} {gf : D → En → Option En} {mt : MT} {me : ME} {ix : List Nat} (hP : a9 Z.cl P) (hnd : vs.Nodup) (hix : ∀ i ∈ ix, i ∈ vs) (i2 : SI Z wi mi)
  (g2 : ∀ (g : G) (env : En) (σ : L2.St) (I H : Hp) (d : D) (v : V) (Q : L2.St → Hp → Prop) (env' : En), SR Z.K Z.cl g env σ I H → Rep Z.K Z.cl I d v → gf d env = some env' →
   (∀ σ', SR Z.K Z.cl g env' σ' I H → (∀ vs, (∀ i ∈ ix, i ∈ vs) → wipe σ' vs = wipe σ vs) → Q σ' H) → gt v σ H Q)
  (t2 : ST Z tt mt) (e2 : SE Z te me) : SE Z (tGx stop P wi gt tt te vs) (mGx stop vs mi gf mt me) := by
 intro g env σ I H Q d env' R hm k
 unfold mGx at hm
 obtain ⟨⟨ds, en⟩, e1, hm⟩ := Option.bind_eq_some_iff.mp hm
 dsimp only at hm
 split at hm
 ·rename_i hcalm
  obtain ⟨⟨bb, enf⟩, e3, hm⟩ := Option.map_eq_some_iff.mp hm
  cases hm
  refine i2 g env σ I H _ ds en R e1 fun J I1 H1 R1 s1 wd => ?_
  obtain ⟨Gd, Y, hw, hgd, hy⟩ := wd
  refine ⟨(R1.tb P hP).2.1, fun H2 tab => ?_⟩
  have R2 := R1.tabbed hP tab
  have ww : ∀ (ws us : List Nat) (τ : L2.St), (∀ u ∈ us, u ∈ ws) → wipe (wipe τ us) ws = wipe τ ws := by
   intro ws us
   induction us with
   | nil => intro τ _; rfl
   | cons u us ih =>
    intro τ hu
    show wipe ((wipe τ us).set u none) ws = wipe τ ws
    rw [iQ (hu u List.mem_cons_self), ih τ fun v hv => hu v (List.mem_cons_of_mem _ hv)]
  -- where the loop ends
  have out : ∀ {en2 : En} {I2 H2 : Hp} {c : Bool}, SR Z.K Z.cl g (bY en2 vs) (wipe σ vs) I2 H2 → Same I1 I2 → (c, en2) = (bb, enf) → Q (.bl c) H2 := fun {en2 I2 H2 c} R' s' e => by
   cases e
   exact k _ I2 H2 (SR.back R1 vs hnd hcalm R' s') (s1.trans s') .bl
  refine AG (t0 := ()) hw (fun i _ H' => ∃ en2 I2, SR Z.K Z.cl g (bY en2 vs) (wipe σ vs) I2 H' ∧ Same I1 I2 ∧ fk stop gf mt me vs (ds.drop i) en2 = some (bb, enf)) ⟨en, I1, R2.wipe vs, Same.refl _, e3⟩ (fun i _ H' _ ⟨_, I2, R', s', _⟩ => hgd I2 H' s' R'.sub) ?_ ?_
  ·rintro i _ x C C' hlt ⟨en2, I2, R', s', hm2⟩ hyld
   have hdi : ds[i]? = some ds[i] := List.getElem?_eq_getElem hlt
   rw [List.drop_eq_getElem_cons hlt] at hm2
   obtain ⟨I3, R3, s3, r3⟩ := hy i ds[i] _ _ _ I2 C x C' hdi s' R' hyld
   unfold fk at hm2
   obtain ⟨en3, q1, hm2⟩ := Option.bind_eq_some_iff.mp hm2
   refine g2 _ _ _ I3 C' ds[i] x _ en3 R3 r3 q1 fun σ4 R4 w4 => ?_
   have hwp : wipe σ4 vs = wipe σ vs := by rw [w4 vs hix]; exact ww vs vs σ fun _ h => h
   refine ⟨hwp, ?_⟩
   obtain ⟨⟨b, en4⟩, q2, hm2⟩ := Option.bind_eq_some_iff.mp hm2
   refine t2 _ _ _ I3 C' _ b en4 R4 q2 fun I5 H5 R5 s5 => ?_
   have nxt : ∀ {I6 H6 : Hp} {en6 : En}, SR Z.K Z.cl g en6 σ4 I6 H6 → SR Z.K Z.cl g (bY en6 vs) (wipe σ vs) I6 H6 := fun {I6 H6 en6} R6 => by
    have R7 := R6.wipe vs
    rw [hwp] at R7
    exact R7
   cases b with
   | false =>
    simp only [Bool.false_eq_true, if_false] at hm2 ⊢
    exact ⟨en4, I5, nxt R5, (s'.trans s3).trans s5, hm2⟩
   | true =>
    simp only [if_true] at hm2 ⊢
    obtain ⟨⟨y, en5⟩, q3, hm2⟩ := Option.bind_eq_some_iff.mp hm2
    refine e2 _ _ _ I5 H5 _ y en5 R5 q3 fun v I6 H6 R6 s6 rv => ?_
    dsimp only at hm2
    split at hm2
    ·rename_i c
     refine ⟨c, rv.bl_inv, ?_⟩
     split at hm2
     ·rename_i hc
      rw [if_pos hc]
      exact out (nxt R6) (((s'.trans s3).trans s5).trans s6) (Option.some.inj hm2)
     ·rename_i hc
      rw [if_neg hc]
      exact ⟨en5, I6, nxt R6, ((s'.trans s3).trans s5).trans s6, hm2⟩
    ·cases hm2
  ·rintro _ C ⟨en2, I2, R', s', hm2⟩
   rw [List.drop_length] at hm2
   exact out R' s' (Option.some.inj hm2)
 ·cases hm
def gxC (scope : Scope) : Bool := (scope.names.all fun y => match y.2 with | .cell => false | _ => true) && decide (scope.names.lookup (".0" : Str) = some NameKind.local) && !scope.isCoroutine
theorem zB {scope : Scope} (h : gxC scope = true) : (∀ y ∈ scope.names, y.2 ≠ .cell) ∧ scope.names.lookup (".0" : Str) = some NameKind.local ∧ scope.isCoroutine = false := by
 unfold gxC at h
 simp only [Bool.and_eq_true, List.all_eq_true, decide_eq_true_eq, Bool.not_eq_true'] at h
 refine ⟨fun y hy e => ?_, h.1.2, h.2⟩
 have := h.1.1 y hy
 rw [e] at this
 cases this
theorem Ab {c P : Addr} {k : Nat} {elt tg iter : Expr} {ifs : List Expr} {scope : Scope} {own : List (Str × Nat)} {p pos gpos : Pos} {mi : MI} {ix : List Nat} {gf : D → En → Option En} {mt : MT} {me : ME} (hme : Z.me = some (c, P)) (hk : k + 2 ≤ Z.k) (hgl : GlZ Z "any") (hm : Z.mg "any" = none)
  (hi : IV Z tg iter mi) (ok : BlkOk Z.N Z.sc scope own) (hsc : gxC scope = true) (hg : GV (ZG Z scope k) tg ix gf) (ht : CV (ZG Z scope k) ifs mt) (he : EV (ZG Z scope k) elt me) (hP : a9 Z.cl P)
  (hnd : (own.map (·.2)).Nodup := by decide) (hix : ∀ i ∈ ix, i ∈ own.map (·.2) := by decide) (hs : ∀ env v, genFold iter env v = pure v := by intro _ _; rfl)
  (hst : ∀ env, starEach [.GeneratorExp elt [⟨tg, iter, ifs, 0⟩] scope gpos] env = (false, eval (.GeneratorExp elt [⟨tg, iter, ifs, 0⟩] scope gpos) env) :: starEach [] env := by intro _; rfl) :
  EV Z (.Call (.Name "any" p) [.GeneratorExp elt [⟨tg, iter, ifs, 0⟩] scope gpos] [] pos) (mGx true (own.map (·.2)) mi gf mt me) := by
 obtain ⟨wi, i1, i2⟩ := hi
 obtain ⟨gt, g1, g2⟩ := hg
 obtain ⟨tt, t1, t2⟩ := ht
 obtain ⟨te, e1, e2⟩ := he
 obtain ⟨n1, n2, n3⟩ := zB hsc
 exact ⟨_, fun X i => wY (k := k) i.calm i.nd (i.room.mono hk) i.gd (eL i hgl) (by rw [i.mg]; exact hm) (i.cd c P hme).2.1 (i.cd c P hme).1 (i1 X i) (by rw [i.N, i.sc]; exact ok) n1 n2 n3 (fun A s H code fp po hr hA => g1 _ (inG i hr hA)) (fun A s H code fp po hr hA => t1 _ (inG i hr hA)) (fun A s H code fp po hr hA => e1 _ (inG i hr hA)) (hs _) (hst _),
  AR hP hnd hix i2 g2 t2 e2⟩
end
end Q
namespace Q
open PySem PySem.Spec PyProof.Rows L2 GenW
end Q
namespace Q
open PySem L2
section
variable {Z : Zc}
def C7 (neg : Bool) : D → D → Option D
 | .bl a, .bl b => some (.bl (xor neg (a == b)))
 | _, _ => none
end
end Q
namespace Q
open PySem PySem.Spec PyProof.Rows L2
section
variable {P : Program} {w : World} {K : PySem.W.Frag} {mg mb : Str → Option Value} {CX : CXT} {k : Nat} {fa a : Addr} {fd : FuncData} {x : Str} {sp : Sp} {s₁ : Shared} {vs : List Value} {ns : List Int} {H : Hp} {cs : List (Addr × Addr)}
abbrev nz : Obj := { cls := .none, data := .fields #[] }
theorem tT (KX : K.In s₁.heap) (hns : s₁.heap.Ns mainGlobals mg) (hb : s₁.heap.Ns builtinsNs mb) (hbb : ∀ x : Str, x ≠ "__name__" → mb x = bootBuiltins x) (hlim : s₁.heap.NoLimit) (hg : s₁.gens = #[])
  (ha : s₁.heap.get? a = some { cls := .type "list", data := .seq vs.toArray }) (hr : Room k callerA)
  (tab : ∀ p ∈ cs, s₁.heap.get? p.2 = some nz) (ntK : ∀ p ∈ cs, K.lookup p.2 = none) (cod : ∀ p ∈ cs, PySem.W.CodeHd s₁.heap p.1 p.2)
  (hbm : ∃ (bm : Addr) (ob : Obj), mg "__builtins__" = some (.ref bm) ∧ bm ≠ builtinsNs ∧ s₁.heap.get? bm = some ob ∧ ob.cls = .type "module" ∧ ob.dict = some builtinsNs ∧ ob.data = .plain)
  (F : ∀ base : Heap, K.In base → base.Ns mainGlobals mg → (∀ p ∈ cs, GxR.TabB base mg p.1 p.2) → FnG P w K mg base CX k fa fd [x] sp)
  (hbind : ∀ (s : Shared) (u : Value), BindsTo s fd ⟨[u], []⟩ [(x, u)]) (hT : ∀ p ∈ cs, H p.2 = some (.tbl #[])) (hO : ∀ b, H b = none ∨ b ∈ cs.map (·.2) ∨ ∃ o xs, H b = some (.frz o (.lst xs))) (hok : HOk P w H s₁.heap) (hA : ∀ b u, H b = some u → b = a ∨ b ∈ cs.map (·.2)) (hK : ∀ u, H a = some u → K.lookup a = none)
  (hsp : sp [.ref a] H (fun v _ => v = .bl true) fun _ _ _ => False) (hCX : ∀ e z, CX [] H s₁ (fun _ _ _ => False) e z → False) :
  codeAny (model P w) callerA (.call (.ref fa) ⟨[.ref a], []⟩) (wZ s₁) s₁ := by
 have tabAt : ∀ b, b ∈ cs.map (·.2) → s₁.heap.get? b = some nz := fun b q => by
  obtain ⟨p, hp, e⟩ := List.mem_map.mp q
  rw [← e]; exact tab p hp
 -- an object that is neither the script nor a table is untold
 have free : ∀ {b : Addr} {o : Obj}, s₁.heap.get? b = some o → (∀ l n, o.data ≠ .seq l n) → o.data ≠ .fields #[] → H b = none := fun {b o} e h1 h2 => by
  match q : H b with
  | none => rfl
  | some u =>
   rcases hA b u q with z | z
   ·rw [z, ha] at e; cases e; exact absurd rfl (h1 _ _)
   ·rw [tabAt b z] at e; cases e; exact absurd rfl h2
 have up : ∀ {b : Addr} {o : Obj}, s₁.heap.get? b = some o → (∀ l n, o.data ≠ .seq l n) → o.data ≠ .fields #[] → (hidT s₁.heap H).get? b = some o := fun e h1 h2 => hidT_get e (free e h1 h2)
 have ns2 : ∀ {b : Addr} {m : Str → Option Value}, s₁.heap.Ns b m → (hidT s₁.heap H).Ns b m := fun ⟨o, es, n, e, d, r⟩ => ⟨o, es, n, up e (fun l j z => by rw [d] at z; cases z) (fun z => by rw [d] at z; cases z), d, r⟩
 have K2 : K.In (hidT s₁.heap H) := fun b o e => hidT_get (KX b o e) (by
  match q : H b with
  | none => rfl
  | some u =>
   rcases hA b u q with z | z
   ·rw [z] at e q; rw [hK u q] at e; cases e
   ·obtain ⟨p, hp, z2⟩ := List.mem_map.mp z
    rw [← z2, ntK p hp] at e; cases e)
 have TB : ∀ p ∈ cs, GxR.TabB (hidT s₁.heap H) mg p.1 p.2 := fun p hp => by
  have hp2 := tab p hp
  refine ⟨?_, ?_, fun z => ?_⟩
  ·obtain ⟨o, us, f1, t1, f2, g1, q1, t2, t3, e1, r1, r2, r3, r4, r5, r6, r7, r8, r9⟩ := cod p hp
   refine ⟨o, us, f1, t1, f2, g1, q1, t2, t3, up e1 (fun l j z => by rw [r2] at z; cases z) (fun z => ?_), r1, r2, r3, r4, r5, r6, r7, r8, r9⟩
   rw [r2] at z
   cases z
   simp at r3
  ·obtain ⟨bm, ob, b1, b2, b3, b4, b5, b6⟩ := hbm
   refine ⟨bm, ob, b1, b2, fun z => ?_, fun z => ?_, up b3 (fun l j z => by rw [b6] at z; cases z) (fun z => by rw [b6] at z; cases z), b4, b5, b6⟩
   ·obtain ⟨o, es, n, e, d, _⟩ := hns
    rw [z, e] at b3; cases b3
    rw [d] at b6; cases b6
   ·rw [z, hp2] at b3; cases b3
    cases b6
  ·obtain ⟨o, es, n, e, d, _⟩ := hns
   rw [z, hp2] at e; cases e
   cases d
 have E0 : Env0 P w K mg (hidT s₁.heap H) callerA [] s₁ H := {
  frames := rfl
  mod := ⟨K2, ns2 hns, ⟨mb, ns2 hb, hbb⟩, let ⟨mc, h1, h2⟩ := hlim; ⟨mc, ns2 h1, h2⟩⟩
  bs := fun b o e => of_hidT e
  bsz := Nat.le_of_eq (hidT_size _ _)
  funs := trivial
  frf := fun b hb => nomatch hb
  hok := hok
  bare := .of_eq hg }
 refine codeAny_mono ((F _ K2 (ns2 hns) TB).go hr rfl E0 (us := [.ref a]) (vs := [.ref a]) (hbind s₁ (.ref a)) (.cons rfl .nil) hsp) fun r z q => ?_
 match r, q with
 | .error e, q => exact (hCX e z q).elim
 | .ok (.ret u), ⟨v, H', os, bare, un, hok', rv, hv⟩ =>
  cases hv
  cases rv
  have keep : ∀ b o, b ∉ cs.map (·.2) → s₁.heap.get? b = some o → z.heap.get? b = some o := fun b o nb e => by
   match q : H b with
   | none => exact un.keep b o e q (fun z => nomatch z) (by simp)
   | some u =>
    rcases hO b with y | y | ⟨ob, xs, y⟩
    ·rw [q] at y; cases y
    ·exact absurd y nb
    ·have e1 := (hok b _ y).1
     rw [e] at e1
     cases e1
     exact (hok' b _ (un.frzs b _ _ y)).1
  have grown : ∀ b, b ∈ cs.map (·.2) → ∃ p ∈ cs, b = p.2 ∧ ∃ more : Array Value, z.heap.get? b = some { cls := .none, data := .fields more } := fun b hb => by
   obtain ⟨p, hp, e⟩ := List.mem_map.mp hb
   obtain ⟨more, y⟩ := un.tbls p.2 #[] (hT p hp)
   refine ⟨p, hp, e.symm, #[] ++ more, ?_⟩
   rw [← e]
   exact hok' p.2 _ y
  refine ⟨rfl, ⟨fun b o e => ?_, fun b o e => ?_⟩, os, bare⟩
  ·by_cases hb : b ∈ cs.map (·.2)
   ·obtain ⟨p, hp, rfl, more, hm⟩ := grown b hb
    have e0 := tab p hp
    rw [e] at e0
    cases e0
    exact .inr (.inl ⟨((cod p hp).tab (tab p hp)).isCodeTable, rfl, #[], more, rfl, by rw [Array.empty_append]; exact hm⟩)
   ·exact .inl (keep b o hb e)
  ·by_cases hb : b ∈ cs.map (·.2)
   ·obtain ⟨p, hp, rfl, more, hm⟩ := grown b hb
    exact ⟨_, hm⟩
   ·exact ⟨o, keep b o hb e⟩
end
def SpG (K : PySem.W.Frag) (cs : List (Addr × Addr)) (n : Nat) : Sp := fun vs H Q _ => ∃ (a : Addr) (ns : List Int), vs = [.ref a] ∧ (∀ p ∈ cs, GxR.TabG H p.2) ∧ (∃ J, Same J H ∧ (∀ p ∈ cs, J p.2 = none) ∧ SqL K J a (ns.map V.int)) ∧ ns.length ≤ n ∧ ∀ H', Q (.bl true) H'
end Q
namespace Q
open PySem PySem.Spec PyProof.Rows L2
section
variable {Z : Zc}
def vV (c : String) (f : Str) (i : Nat) (j : Int) : MS := fun env => (env[i]?.bind Sl.own?).bind fun d => match qh c f d with
 | some (.int v) => match d with
  | .obj c' ks xs => if c' = c ∧ ks.length < 1000 ∧ xs.length < 1000 then some (.nx (b7 env i (.obj c (o7 f ks) (o6 f (.int (v + j)) ks xs)))) else none
  | _ => none
 | _ => none
end
end Q
namespace Q
open PySem PySem.Spec PyProof.Rows L2
section
variable {Z : Zc}
def jM (i : Nat) (e : ME) : MS := fun env => (c4 env i).bind fun _ => (e env).bind fun p => (c4 p.2 i).bind fun xs => match p.1 with
 | .lst zs => if xs.length + zs.length ≤ sizeLine then some (.nx (b7 p.2 i (.lst (xs ++ zs)))) else none
 | _ => none
theorem pz {i : Nat} {x : Str} {e : Expr} {m : ME} {p pos : Pos} (hN : Z.N[i]? = some x) (hv : jo Z x) (h : EV Z e m) : SV Z (.AugAssign (.Name x p) .Add e pos) (jM i m) := by
 obtain ⟨t, q1, q2⟩ := h
 refine ⟨tAug i t rExt2, fun X k => ps_aug k.nd (by rw [k.N]; exact hN) (gX k hv).1 (q1 X k) iop_ext (gX k hv).2, fun g env σ I H D fl R hm k => ?_⟩
 unfold jM at hm
 cases e0 : c4 env i with
 | none => rw [e0] at hm; cases hm
 | some d0 =>
  rw [e0] at hm; simp only [Option.bind_some] at hm
  cases e1 : m env with
  | none => rw [e1] at hm; cases hm
  | some r =>
   obtain ⟨y, en⟩ := r
   rw [e1] at hm; simp only [Option.bind_some] at hm
   cases e2 : c4 en i with
   | none => rw [e2] at hm; cases hm
   | some xs =>
    rw [e2] at hm; simp only [Option.bind_some] at hm
    split at hm
    ·rename_i zs
     split at hm
     ·rename_i hlen
      cases hm
      obtain ⟨s0, a0, vs0, h1, h2, h3, h4, _⟩ := gL R e0
      refine ⟨.ref a0, h3, ?_⟩
      refine q2 g env σ I H _ (.lst zs) en R e1 fun v I1 H1 R1 s1 rv => ?_
      obtain ⟨s, a, vs, h5, h6, h7, h8, h9⟩ := gL R1 e2
      rw [h3] at h7
      cases h7
      obtain ⟨b, ws, rfl, hb, rb⟩ := rv.lst_inv
      refine ⟨a0, b, vs, ws, rfl, rfl, h8, R1.sub _ _ hb, by rw [← h9.length, ← rb.length]; exact hlen, ?_⟩
      have R2 := R1.mutate h5 h6 h3 (.lst (h9.append rb))
      have e5 : b7 en i (.lst (xs ++ zs)) = en.set i (s.put (.lst (xs ++ zs))) := by unfold b7; rw [h5]
      rw [e5] at k
      have e6 : σ.set i (some (.ref a0)) = σ := by
       obtain ⟨hl, e7⟩ := List.getElem?_eq_some_iff.mp h3
       rw [← e7]; exact List.set_getElem_self hl
      show D.nx (List.set σ i (some (V.ref a0))) _
      rw [e6]
      exact k σ I1 _ R2 s1
     ·cases hm
    ·cases hm
end
@[simp] theorem DK (i : Nat) (e : ME) (env : En) : jM i e env = (c4 env i).bind fun _ => (e env).bind fun p => (c4 p.2 i).bind fun xs => match p.1 with
 | .lst zs => if xs.length + zs.length ≤ sizeLine then some (.nx (b7 p.2 i (.lst (xs ++ zs)))) else none
 | _ => none := rfl
end Q
namespace Q
open Nd PySem PySem.Spec PyProof.Rows L2
end Q
namespace Q
open PySem PySem.Spec PyProof.Rows L2
section
variable {Z : Zc}
def o5 : List D → Option D
 | [.str z] => (PySem.intText? z).bind fun n => if z.length ≤ 640 then some (.int n) else none
 | _ => none
def wg : List V → Hp → VK → Prop := fun xs H Q => ∃ a n, xs = [.str a] ∧ PySem.intText? a = some n ∧ a.length ≤ 640 ∧ Q (.int n) H
theorem xJ {X : Cx} : CallR X (.type "int") wg := call_int_str
theorem xx : i7 Z wg o5 := by
 intro I H x z vs Q s rs h k
 unfold o5 at h
 split at h
 ·obtain ⟨n, h1, h⟩ := Option.bind_eq_some_iff.mp h
  split at h
  ·cases h
   obtain ⟨v, rfl, r⟩ := rs.one
   cases r.str
   exact ⟨_, _, rfl, h1, by assumption, k _ .int⟩
  ·cases h
 ·cases h
end
@[simp] theorem CQ (z : Str) : o5 [.str z] = (PySem.intText? z).bind fun n => if z.length ≤ 640 then some (.int n) else none := rfl
end Q
namespace Q
open PySem L2
def W (m : MS) (env : En) (Q : Fl → Prop) : Prop := ∃ fl, m env = some fl ∧ Q fl
def sqK (b : MS) (Q : Fl → Prop) : Fl → Prop
 | .nx e => W b e Q
 | fl => Q fl
def lp (P : En → Prop) (Q : Fl → Prop) : Fl → Prop
 | .nx e => P e
 | .ct e => P e
 | .bk e => Q (.nx e)
 | .ret md d e => Q (.ret md d e)
def Rt (R : Md → D → Prop) : Fl → Prop
 | .nx _ => R .imm .non
 | .ret md d _ => R md d
 | _ => False
def ft (j : Nat) (R : Md → D → D → Prop) : Fl → Prop
 | .nx e => ∃ x, e[j]? = some (.io 0 x) ∧ R .imm .non x
 | .ret md d e => ∃ x, e[j]? = some (.io 0 x) ∧ R md d x
 | _ => False
def Gt {α : Type} (o : Option α) (F : α → Prop) : Prop := ∃ p, o = some p ∧ F p
@[simp] theorem ai {α : Type} (p : α) (F : α → Prop) : Gt (some p) F ↔ F p := by simp [Gt]
@[simp] theorem Eg {α : Type} (F : α → Prop) : Gt (none : Option α) F ↔ False := by simp [Gt]
theorem fJ {α : Type} (o : Option α) (F : α → Prop) : Gt o F ↔ ∃ p, o = some p ∧ F p := Iff.rfl
section
variable {a b : MS} {env e : En} {Q : Fl → Prop} {i : Nat} {x : ME} {c : MT} {P : En → Prop} {R : Md → D → Prop} {R2 : Md → D → D → Prop} {md : Md} {d : D} {j : Nat}
@[simp] theorem ay : sqK b Q (.nx e) ↔ W b e Q := Iff.rfl
@[simp] theorem EY : sqK b Q (.bk e) ↔ Q (.bk e) := Iff.rfl
@[simp] theorem EJ : sqK b Q (.ct e) ↔ Q (.ct e) := Iff.rfl
@[simp] theorem dD : sqK b Q (.ret md d e) ↔ Q (.ret md d e) := Iff.rfl
@[simp] theorem wm : lp P Q (.nx e) ↔ P e := Iff.rfl
@[simp] theorem Fb : lp P Q (.ct e) ↔ P e := Iff.rfl
@[simp] theorem Fj : lp P Q (.bk e) ↔ Q (.nx e) := Iff.rfl
@[simp] theorem Ew : lp P Q (.ret md d e) ↔ Q (.ret md d e) := Iff.rfl
@[simp] theorem Ei : Rt R (.ret md d e) ↔ R md d := Iff.rfl
@[simp] theorem Fg : Rt R (.nx e) ↔ R .imm .non := Iff.rfl
@[simp] theorem Da : ft j R2 (.ret md d e) ↔ ∃ x, e[j]? = some (.io 0 x) ∧ R2 md d x := Iff.rfl
@[simp] theorem Ea : ft j R2 (.nx e) ↔ ∃ x, e[j]? = some (.io 0 x) ∧ R2 .imm .non x := Iff.rfl
@[simp] theorem aE : W (aH a b) env Q ↔ W a env (sqK b Q) := by
 unfold W aH
 constructor
 ·rintro ⟨fl, h, q⟩
  obtain ⟨f1, h1, h2⟩ := Option.bind_eq_some_iff.mp h
  refine ⟨f1, h1, ?_⟩
  cases f1 with
  | nx e => exact ⟨fl, h2, q⟩
  | _ => cases h2; exact q
 ·rintro ⟨fl, h, q⟩
  rw [h]
  cases fl with
  | nx e => exact q
  | _ => exact ⟨_, rfl, q⟩
@[simp] theorem bA : W bC env Q ↔ Q (.nx env) := by simp [W, bC]
@[simp] theorem E6 : W zm env Q ↔ Q (.bk env) := by simp [W, zm]
@[simp] theorem Fc : W yy env Q ↔ Q (.ct env) := by simp [W, yy]
@[simp] theorem bQ : W (bL i x) env Q ↔ Gt (x env) fun p => i < p.2.length ∧ Q (.nx (p.2.set i (.imm p.1))) := by
 rw [fJ]
 unfold W bL
 cases h : x env with
 | none => simp
 | some p => by_cases hl : i < p.2.length <;> simp [hl]
@[simp] theorem fK : W (d8 i x) env Q ↔ Gt (x env) fun p => i < p.2.length ∧ Q (.nx (p.2.set i (.own p.1))) := by
 rw [fJ]
 unfold W d8
 cases h : x env with
 | none => simp
 | some p => by_cases hl : i < p.2.length <;> simp [hl]
@[simp] theorem cz : W (be x) env Q ↔ Gt (x env) fun p => Q (.ret .imm p.1 p.2) := by
 rw [fJ]
 unfold W be
 cases h : x env <;> simp
@[simp] theorem yn : W (mZ x) env Q ↔ Gt (x env) fun p => Q (.ret .new p.1 p.2) := by
 rw [fJ]
 unfold W mZ
 cases h : x env <;> simp
@[simp] theorem bI : W (bx c a b) env Q ↔ Gt (c env) fun p => if p.1 = true then W a p.2 Q else W b p.2 Q := by
 rw [fJ]
 unfold W bx
 cases h : c env with
 | none => simp
 | some p => cases hp : p.1 <;> simp [hp]
end
@[simp] theorem bp (d : D) (env : En) : mC d env = some (d, env) := rfl
@[simp] theorem sL (i : Nat) (env : En) : au i env = (match env[i]? with
 | some (.imm d) => some (d, env)
 | some (.own d) => some (d, env.set i (.imm d))
 | _ => none) := rfl
@[simp] theorem aL (i : Nat) (env : En) : af i env = (env[i]?.bind Sl.rd).map fun _ => (Ls.slot i, env) := rfl
@[simp] theorem aP (m : ME) (env : En) : aa m env = (m env).map fun p => (Ls.fix p.1, p.2) := rfl
@[simp] theorem aW (f : D → D → Option D) (a b : ML) (env : En) : ae f a b env = (a env).bind fun p => (b p.2).bind fun q => (p.1.get q.2).bind fun x => (q.1.get q.2).bind fun y => (f x y).map fun z => (z, q.2) := rfl
@[simp] theorem cu (m : ME) (env : En) : aq m env = (m env).bind fun p => match p.1 with
 | .bl b => some (b, p.2)
 | _ => none := rfl
@[simp] theorem aO (d : D) (env : En) : (Ls.fix d).get env = some d := rfl
@[simp] theorem get_slot (i : Nat) (env : En) : (Ls.slot i).get env = env[i]?.bind Sl.rd := rfl
@[simp] theorem E7 : Sl.rd .un = none := rfl
@[simp] theorem aV (d : D) : Sl.rd (.imm d) = some d := rfl
@[simp] theorem ET (d : D) : Sl.rd (.bor d) = some d := rfl
@[simp] theorem pG (d : D) : Sl.rd (.own d) = some d := rfl
@[simp] theorem E5 (k : Nat) (d : D) : Sl.rd (.io k d) = some d := rfl
@[simp] theorem DH (d : D) : Sl.own? (.own d) = some d := rfl
@[simp] theorem Et (k : Nat) (d : D) : Sl.own? (.io k d) = some d := rfl
@[simp] theorem DJ (d x : D) : Sl.put (.own d) x = .own x := rfl
@[simp] theorem EU (k : Nat) (d x : D) : Sl.put (.io k d) x = .io k x := rfl
@[simp] theorem kZ (a b : MT) (env : En) : fb a b env = (a env).bind fun p => if p.1 then b p.2 else some (false, p.2) := rfl
@[simp] theorem fN (a b : MT) (env : En) : mOr a b env = (a env).bind fun p => if p.1 then some (true, p.2) else b p.2 := rfl
@[simp] theorem EB (a : MT) (env : En) : gD a env = (a env).map fun p => (!p.1, p.2) := rfl
@[simp] theorem xR (a b : ME) (env : En) : oZ a b env = (aq a env).bind fun p => if p.1 then b p.2 else some (.bl false, p.2) := rfl
@[simp] theorem EI (a b : ME) (env : En) : BQ a b env = (aq a env).bind fun p => if p.1 then some (.bl true, p.2) else b p.2 := rfl
@[simp] theorem D6 (a : ME) (env : En) : Aq a env = (aq a env).map fun p => (.bl (!p.1), p.2) := rfl
@[simp] theorem fL (m : ML) (env : En) : bZ m env = (m env).bind fun p => (p.1.get p.2).bind fun d => (dR d).map fun b => (b, p.2) := rfl
@[simp] theorem wx (env : En) : aN env = some ([], env) := rfl
@[simp] theorem mR (a : ME) (r : En → Option (List D × En)) (env : En) : aj a r env = (a env).bind fun p => (r p.2).map fun q => (p.1 :: q.1, q.2) := rfl
theorem rW : 10000 ≤ sizeLine := by decide
theorem o9 {n : Nat} (h : n ≤ 10000) : n ≤ sizeLine := Nat.le_trans h rW
theorem ie {a : En → Option (List D × En)} {env e : En} {xs : List D} (h : a env = some (xs, e)) (hl : xs.length ≤ 10000) : b8 a env = some (.lst xs, e) := by
 have h2 : xs.length ≤ sizeLine := o9 hl
 unfold b8; rw [h]; simp only [Option.bind_some]; rw [if_pos h2]
theorem hU {a : En → Option (List D × En)} {env e : En} {xs : List D} (h : a env = some (xs, e)) (hl : xs.length ≤ 10000) : cN a env = some (.tup xs, e) := by
 have h2 : xs.length ≤ sizeLine := o9 hl
 unfold cN; rw [h]; simp only [Option.bind_some]; rw [if_pos h2]
@[simp] theorem rQ (env : En) : b8 aN env = some (.lst [], env) := ie rfl (by simp)
@[simp] theorem Bc (a : ME) (env : En) : b8 (aj a aN) env = (a env).map fun p => (.lst [p.1], p.2) := by
 cases h : a env with
 | none => unfold b8; simp [h]
 | some p => exact ie (xs := [p.1]) (by simp [h]) (by simp)
@[simp] theorem vY (a b : ME) (env : En) : b8 (aj a (aj b aN)) env = (a env).bind fun p => (b p.2).map fun q => (.lst [p.1, q.1], q.2) := by
 cases h : a env with
 | none => unfold b8; simp [h]
 | some p =>
  cases h2 : b p.2 with
  | none => unfold b8; simp [h, h2]
  | some q => simp only [Option.bind_some, h2, Option.map_some]; exact ie (xs := [p.1, q.1]) (by simp [h, h2]) (by simp)
@[simp] theorem Fi (a b c : ME) (env : En) : b8 (aj a (aj b (aj c aN))) env = (a env).bind fun p => (b p.2).bind fun q => (c q.2).map fun r => (.lst [p.1, q.1, r.1], r.2) := by
 cases h : a env with
 | none => unfold b8; simp [h]
 | some p =>
  cases h2 : b p.2 with
  | none => unfold b8; simp [h, h2]
  | some q =>
   cases h3 : c q.2 with
   | none => unfold b8; simp [h, h2, h3]
   | some r => simp only [Option.bind_some, h2, h3, Option.map_some]; exact ie (xs := [p.1, q.1, r.1]) (by simp [h, h2, h3]) (by simp)
@[simp] theorem Ff (a b : ME) (env : En) : cN (aj a (aj b aN)) env = (a env).bind fun p => (b p.2).map fun q => (.tup [p.1, q.1], q.2) := by
 cases h : a env with
 | none => unfold cN; simp [h]
 | some p =>
  cases h2 : b p.2 with
  | none => unfold cN; simp [h, h2]
  | some q => simp only [Option.bind_some, h2, Option.map_some]; exact hU (xs := [p.1, q.1]) (by simp [h, h2]) (by simp)
@[simp] theorem E9 (a b c : ME) (env : En) : cN (aj a (aj b (aj c aN))) env = (a env).bind fun p => (b p.2).bind fun q => (c q.2).map fun r => (.tup [p.1, q.1, r.1], r.2) := by
 cases h : a env with
 | none => unfold cN; simp [h]
 | some p =>
  cases h2 : b p.2 with
  | none => unfold cN; simp [h, h2]
  | some q =>
   cases h3 : c q.2 with
   | none => unfold cN; simp [h, h2, h3]
   | some r => simp only [Option.bind_some, h2, h3, Option.map_some]; exact hU (xs := [p.1, q.1, r.1]) (by simp [h, h2, h3]) (by simp)
@[simp] theorem cS (env : En) : aY env = some ([], env) := rfl
@[simp] theorem cF (a : ML) (r : En → Option (List Ls × En)) (env : En) : aM a r env = (a env).bind fun p => (r p.2).map fun q => (p.1 :: q.1, q.2) := rfl
@[simp] theorem dZ (f : List D → Option D) (a : En → Option (List Ls × En)) (env : En) : mBi f a env = (a env).bind fun p => (fO p.1 p.2).bind fun ds => (f ds).map fun z => (z, p.2) := rfl
@[simp] theorem cj (env : En) : fO [] env = some [] := rfl
@[simp] theorem b0 (l : Ls) (ls : List Ls) (env : En) : fO (l :: ls) env = (l.get env).bind fun d => (fO ls env).map fun ds => d :: ds := rfl
@[simp] theorem Eb (a : ME) (env : En) : eA a env = (a env).bind fun p => (p.1.walk?).map fun xs => (xs, p.2) := rfl
@[simp] theorem Ay (i : Nat) (d : D) (env : En) : gN i d env = if i < env.length then some (env.set i (.imm d)) else none := rfl
@[simp] theorem El (env : En) : cZ env = some (true, env) := rfl
@[simp] theorem Ed (env : En) : aA env = some ([], env) := rfl
@[simp] theorem D8 (a : ME) (r : MG) (env : En) : aC a r env = (a env).bind fun p => (r p.2).map fun q => (.imm p.1 :: q.1, q.2) := rfl
@[simp] theorem DL (i : Nat) (r : MG) (env : En) : fo i r env = (env[i]?.bind Sl.rd).bind fun _ => (r env).map fun q => (.bor i :: q.1, q.2) := rfl
@[simp] theorem EZ (i : Nat) (r : MG) (env : En) : cIo i r env = (env[i]?.bind Sl.own?).bind fun _ => (r env).map fun q => (.io i :: q.1, q.2) := rfl
@[simp] theorem EN (c : String) (f : Str) (a : ML) (env : En) : Cp c f a env = (a env).bind fun p => (p.1.get p.2).bind fun x => (qh c f x).map fun z => (z, p.2) := rfl
@[simp] theorem eE (env : En) : cf env = some (none, env) := rfl
@[simp] theorem ez (a : ME) (env : En) : b9 a env = (a env).bind fun p => match p.1 with
 | .int i => some (some i, p.2)
 | _ => none := rfl
@[simp] theorem gV (f : D → Option Int → Option Int → Option D) (a : ML) (lo hi : En → Option (Option Int × En)) (env : En) : mSl f a lo hi env = (a env).bind fun p => (lo p.2).bind fun q => (hi q.2).bind fun r => (p.1.get r.2).bind fun x => (f x q.1 r.1).map fun z => (z, r.2) := rfl
section
variable {a b : MS} {env e : En} {Q : Fl → Prop} {i : Nat} {x y : ME} {c : MT}
@[simp] theorem sv : W (gJ i x) env Q ↔ Gt (c4 env i) fun ys => Gt (x env) fun p => Gt (c4 p.2 i) fun xs => xs.length < sizeLine ∧ Q (.nx (b7 p.2 i (.lst (xs ++ [p.1])))) := by
 simp only [Gt]
 unfold W gJ
 cases h : c4 env i with
 | none => simp
 | some ys =>
  cases h1 : x env with
  | none => simp
  | some p =>
   cases h2 : c4 p.2 i with
   | none => simp [h2]
   | some xs => by_cases hl : xs.length < sizeLine <;> simp [hl, h2]
@[simp] theorem ES : W (nk i x y) env Q ↔ Gt (x env) fun p => Gt (c4 p.2 i) fun ys => Gt (y p.2) fun q => Gt (c4 q.2 i) fun xs => Gt (match q.1 with | .int n => some n | _ => none) fun n => Gt (ixN xs.length n) fun k => Q (.nx (b7 q.2 i (.lst (xs.set k p.1)))) := by
 have hm : ∀ (d : D) (F : Int → Prop), Gt (match d with | .int n => some n | _ => none) F ↔ ∃ n, d = .int n ∧ F n := fun d F => by cases d <;> simp
 simp only [hm]
 simp only [Gt]
 unfold W nk
 cases h1 : x env with
 | none => simp
 | some p =>
  cases h : c4 p.2 i with
  | none => simp [h]
  | some ys =>
   cases h2 : y p.2 with
   | none => simp [h, h2]
   | some q =>
    obtain ⟨qd, qe⟩ := q
    cases h3 : c4 qe i with
    | none => simp [h, h2, h3]
    | some xs =>
     cases qd with
     | int n =>
      cases hk : ixN xs.length n with
      | none => simp [h, h2, h3, hk]
      | some k =>
       simp only [Option.bind_some, h, h2, h3, hk, Option.map_some]
       constructor
       ·rintro ⟨fl, e, q⟩
        cases e
        exact ⟨p, rfl, ys, h, (.int n, qe), h2, xs, h3, n, rfl, k, hk, q⟩
       ·rintro ⟨p', e0, ys', e1, q', e2, xs', e3, n', e, k', e4, q⟩
        cases e0
        rw [h2] at e2; cases e2
        cases e
        rw [h3] at e3; cases e3
        rw [hk] at e4; cases e4
        exact ⟨_, rfl, q⟩
     | _ => simp [h, h2, h3]
@[simp] theorem EG : W (jS i) env Q ↔ (∃ d, env[i]? = some (.own d) ∧ Q (.ret .new d (env.set i .un))) ∨ ∃ d, env[i]? = some (.imm d) ∧ Q (.ret .imm d env) := by
 unfold W jS
 cases h : env[i]? with
 | none => simp
 | some s => cases s <;> simp
@[simp] theorem Fe {f : Int → Int → Int} : W (yM f i x) env Q ↔ Gt (match env[i]? with | some (.imm (.int z)) => some z | _ => none) fun z => Gt (x env) fun p => Gt (match p.1 with | .int y => some y | _ => none) fun y => i < p.2.length ∧ Q (.nx (p.2.set i (.imm (.int (f z y))))) := by
 unfold W yM
 cases h : env[i]? with
 | none => simp
 | some s =>
  cases s with
  | imm d =>
   cases d with
   | int z =>
    cases h1 : x env with
    | none => simp
    | some p =>
     obtain ⟨pd, pe⟩ := p
     cases pd with
     | int y => by_cases hl : i < pe.length <;> simp [hl]
     | _ => simp
   | _ => simp
  | _ => simp
@[simp] theorem Cw (env : En) (i : Nat) (d : D) : b7 env i d = (match env[i]? with
 | some s => env.set i (s.put d)
 | none => env) := rfl
@[simp] theorem BL (env : En) (i : Nat) : c4 env i = (env[i]?).bind fun s => (s.own?).bind fun d => match d with
 | .lst xs => some xs
 | _ => none := rfl
theorem mW {it : MI} {gf : D → En → Option En} {body : MS} {ds : List D} {e0 : En} (hi : it env = some (ds, e0)) (P : Nat → En → Prop) (h0 : P 0 e0)
  (hs : ∀ i d e, ds[i]? = some d → P i e → ∃ e1, gf d e = some e1 ∧ W body e1 (lp (P (i + 1)) Q)) (hend : ∀ e, P ds.length e → Q (.nx e)) : W (eT it gf body) env Q := by
 have key : ∀ (ds : List D) (P : Nat → En → Prop) (e0 : En), P 0 e0 → (∀ i d e, ds[i]? = some d → P i e → ∃ e1, gf d e = some e1 ∧ W body e1 (lp (P (i + 1)) Q)) → (∀ e, P ds.length e → Q (.nx e)) → ∃ fl, iZ gf body ds e0 = some fl ∧ Q fl := by
  intro ds
  induction ds with
  | nil => intro P e0 h0 _ he; exact ⟨.nx e0, rfl, he _ h0⟩
  | cons d ds ih =>
   intro P e0 h0 hs he
   obtain ⟨e1, h1, fl, h2, h3⟩ := hs 0 d e0 rfl h0
   have step : ∀ e2, P 1 e2 → ∃ fl, iZ gf body ds e2 = some fl ∧ Q fl := fun e2 hp => ih (fun i => P (i + 1)) e2 hp (fun i d' e' hd hp' => hs (i + 1) d' e' (by simpa using hd) hp') (fun e' hp' => he e' (by simpa using hp'))
   cases fl with
   | nx e2 =>
    obtain ⟨fl, h4, h5⟩ := step e2 h3
    exact ⟨fl, by simp [iZ, h1, h2, h4], h5⟩
   | ct e2 =>
    obtain ⟨fl, h4, h5⟩ := step e2 h3
    exact ⟨fl, by simp [iZ, h1, h2, h4], h5⟩
   | bk e2 => exact ⟨.nx e2, by simp [iZ, h1, h2], h3⟩
   | ret md r e2 => exact ⟨.ret md r e2, by simp [iZ, h1, h2], h3⟩
 obtain ⟨fl, h1, h2⟩ := key ds P e0 h0 hs hend
 exact ⟨fl, by simp [eT, hi, h1], h2⟩
end
theorem l4 {vs : List Nat} {mi : MI} {gf : D → En → Option En} {mt : MT} {me : ME} {env e0 : En} {ds : List D} (hi : mi env = some (ds, e0)) (hc : gc e0 vs = true) (hl : ds.length ≤ 10000) (E : En → Prop) (P : Nat → List D → Prop) (hE : E e0) (hP : P 0 [])
  (hs : ∀ i d e acc, ds[i]? = some d → E e → P i acc → ∃ e1 b e2, gf d (bY e vs) = some e1 ∧ mt e1 = some (b, e2) ∧ (b = true → ∃ x e3, me e2 = some (x, e3) ∧ E e3 ∧ P (i + 1) (acc ++ [x])) ∧ (b = false → E e2 ∧ P (i + 1) acc)) :
  ∃ acc e2, mLc vs mi gf mt me env = some (.lst acc, cW e0 (bY e2 vs) vs) ∧ E e2 ∧ P ds.length acc := by
 have key : ∀ (ds : List D) (P : Nat → List D → Prop) (e : En) (acc : List D), acc.length + ds.length ≤ 10000 → E e → P 0 acc → (∀ i d e acc, ds[i]? = some d → E e → P i acc → ∃ e1 b e2, gf d (bY e vs) = some e1 ∧ mt e1 = some (b, e2) ∧ (b = true → ∃ x e3, me e2 = some (x, e3) ∧ E e3 ∧ P (i + 1) (acc ++ [x])) ∧ (b = false → E e2 ∧ P (i + 1) acc)) →
   ∃ acc' e2, eH gf mt me vs ds acc e = some (acc', e2) ∧ E e2 ∧ P ds.length acc' := by
  intro ds
  induction ds with
  | nil => intro P e acc _ hE hP _; exact ⟨acc, e, rfl, hE, hP⟩
  | cons d ds ih =>
   intro P e acc hl hE hP hs
   obtain ⟨e1, b, e2, h1, h2, h3, h4⟩ := hs 0 d e acc rfl hE hP
   have step : ∀ e' acc', acc'.length ≤ acc.length + 1 → E e' → P 1 acc' → ∃ acc'' e2, eH gf mt me vs ds acc' e' = some (acc'', e2) ∧ E e2 ∧ P (ds.length + 1) acc'' := fun e' acc' hl' hE' hP' =>
    ih (fun i => P (i + 1)) e' acc' (by simp at hl; omega) hE' hP' (fun i d' e'' acc'' hd he hp => hs (i + 1) d' e'' acc'' (by simpa using hd) he hp)
   cases b with
   | true =>
    obtain ⟨x, e3, h5, h6, h7⟩ := h3 rfl
    obtain ⟨acc', e4, h8, h9, h10⟩ := step e3 (acc ++ [x]) (by simp) h6 h7
    have := rW
    exact ⟨acc', e4, by simp only [eH, h1, h2, h5, Option.bind_some, if_true]; rw [if_pos (by simp at hl; omega), h8], h9, h10⟩
   | false =>
    obtain ⟨h5, h6⟩ := h4 rfl
    obtain ⟨acc', e4, h8, h9, h10⟩ := step e2 acc (by omega) h5 h6
    exact ⟨acc', e4, by simp only [eH, h1, h2, Option.bind_some, Bool.false_eq_true, if_false, h8], h9, h10⟩
 obtain ⟨acc, e2, h1, h2, h3⟩ := key ds P e0 [] (by simpa using hl) hE hP hs
 exact ⟨acc, e2, by simp [mLc, hi, hc, h1], h2, h3⟩
theorem pR {N : List Str} {np : Nat} {mf : MS} {a : MG} {env e1 : En} {as : List Ag} {ss : List Sl} {R : Md → D → Prop} (h1 : a env = some (as, e1)) (h2 : bG as = []) (h3 : as.length = np) (h4 : cE e1 0 as = some ss)
  (h5 : W mf (ss ++ List.replicate (N.length - ss.length) .un) (Rt R)) : ∃ md d, R md d ∧ ak N np mf a env = some (d, e1) ∧ (md = .new → jJ N np mf a env = some (d, e1)) := by
 have hap : apart as = true := by unfold apart; rw [h2]; simp
 obtain ⟨fl, h6, h7⟩ := h5
 have c : ∀ md d, fl = .nx (match fl with | .nx e => e | _ => []) ∧ md = .imm ∧ d = .non ∨ (∃ e, fl = .ret md d e) → fG N mf a env = some (md, d, e1) := by
  intro md d hc
  unfold fG
  rw [h1]
  simp only [Option.bind_some]
  rw [if_pos hap, h4]
  simp only [Option.bind_some]
  rw [h6, h2]
  rcases hc with ⟨hc, rfl, rfl⟩ | ⟨e, rfl⟩
  ·rw [hc]; rfl
  ·rfl
 have fin : ∀ md d, R md d → fG N mf a env = some (md, d, e1) → ∃ md d, R md d ∧ ak N np mf a env = some (d, e1) ∧ (md = .new → jJ N np mf a env = some (d, e1)) := fun md d hr hc => by
  refine ⟨md, d, hr, ?_, fun hn => ?_⟩
  ·unfold ak
   rw [h1, hc, if_pos (by simp [h3])]; rfl
  ·unfold jJ
   rw [h1, hc, if_pos (by simp [h3]), hn]; rfl
 cases fl with
 | nx e => exact fin _ _ h7 (c _ _ (.inl ⟨rfl, rfl, rfl⟩))
 | ret md d e => exact fin _ _ h7 (c _ _ (.inr ⟨e, rfl⟩))
 | bk e => exact h7.elim
 | ct e => exact h7.elim
theorem qH {N : List Str} {np : Nat} {mf : MS} {a : MG} {env e1 : En} {as : List Ag} {ss : List Sl} {R : Md → D → D → Prop} {i j : Nat} (h1 : a env = some (as, e1)) (h2 : bG as = [i]) (hb : i ∉ eN as) (hj : bO 0 as = [j]) (h3 : as.length = np) (h4 : cE e1 0 as = some ss)
  (h5 : W mf (ss ++ List.replicate (N.length - ss.length) .un) (ft j R)) : ∃ md d x, R md d x ∧ ak N np mf a env = some (d, b7 e1 i x) ∧ (md = .new → jJ N np mf a env = some (d, b7 e1 i x)) := by
 have hap : apart as = true := by
  unfold apart; rw [h2]
  simp only [Bool.and_eq_true, List.all_eq_true, decide_eq_true_eq]
  exact ⟨by simp, fun k hk => by simp; intro z; exact hb (by rw [← z]; exact hk)⟩
 obtain ⟨fl, h6, h7⟩ := h5
 have fin : ∀ md d x, R md d x → fG N mf a env = some (md, d, b7 e1 i x) → ∃ md d x, R md d x ∧ ak N np mf a env = some (d, b7 e1 i x) ∧ (md = .new → jJ N np mf a env = some (d, b7 e1 i x)) := fun md d x hr hc => by
  refine ⟨md, d, x, hr, ?_, fun hn => ?_⟩
  ·unfold ak
   rw [h1, hc, if_pos (by simp [h3])]; rfl
  ·unfold jJ
   rw [h1, hc, if_pos (by simp [h3]), hn]; rfl
 have pre : ∀ md d e x, e[j]? = some (.io 0 x) → (fl = .nx e ∧ md = .imm ∧ d = .non ∨ fl = .ret md d e) → fG N mf a env = some (md, d, b7 e1 i x) := by
  intro md d e x hx hc
  unfold fG
  rw [h1]
  simp only [Option.bind_some]
  rw [if_pos hap, h4]
  simp only [Option.bind_some]
  rw [h6, h2, hj]
  rcases hc with ⟨rfl, rfl, rfl⟩ | rfl
  ·simp only [Option.bind_some, dU, hx]; rfl
  ·simp only [Option.bind_some, dU, hx]; rfl
 cases fl with
 | nx e => obtain ⟨x, hx, hr⟩ := h7; exact fin _ _ x hr (pre _ _ e x hx (.inl ⟨rfl, rfl, rfl⟩))
 | ret md d e => obtain ⟨x, hx, hr⟩ := h7; exact fin _ _ x hr (pre _ _ e x hx (.inr rfl))
 | bk e => exact h7.elim
 | ct e => exact h7.elim
@[simp] theorem Ex (lo : Int) (n i : Nat) : (ef lo n)[i]? = if i < n then some (.int (lo + i)) else none := by
 unfold ef
 by_cases h : i < n <;> simp [h]
@[simp] theorem iL (lo : Int) (n : Nat) : (ef lo n).length = n := by simp [ef]
end Q
namespace Q
open PySem L2
theorem ng {α : Type} (xs : List α) (n : Int) (h : 0 ≤ n) : atI xs n = xs[n.toNat]? := by
 unfold atI ixN
 rw [if_pos h]
 by_cases h1 : n < xs.length
 ·rw [if_pos h1]; rfl
 ·rw [if_neg h1, List.getElem?_eq_none (by omega)]; rfl
@[simp] theorem fj {α : Type} (xs : List α) (n : Nat) : atI xs (n : Int) = xs[n]? := by rw [ng _ _ (by omega)]; simp
@[simp] theorem fP {α : Type} (xs : List α) : atI xs 0 = xs[0]? := by rw [ng _ _ (by omega)]; simp
@[simp] theorem oY {α : Type} (xs : List α) : atI xs 1 = xs[1]? := by rw [ng _ _ (by omega)]; simp
@[simp] theorem o4 {α : Type} (xs : List α) : atI xs 2 = xs[2]? := by rw [ng _ _ (by omega)]; simp
theorem uW {n k : Nat} (h : k < n) : ixN n (k : Int) = some k := by
 unfold ixN; rw [if_pos (by omega), if_pos (by omega)]; simp
@[simp] theorem Fh {n : Nat} : ixN (n + 1 + 1) 1 = some 1 := uW (k := 1) (by omega)
@[simp] theorem a8 (xs : List D) (i : Int) : dIx (.lst xs) (.int i) = atI xs i := rfl
@[simp] theorem EX (xs : List D) (i : Int) : dIx (.scr xs) (.int i) = atI xs i := rfl
@[simp] theorem ix_tup (xs : List D) (i : Int) : dIx (.tup xs) (.int i) = atI xs i := rfl
theorem ix_str (z : Str) (i : Int) : dIx (.str z) (.int i) = if z.length ≤ sizeLine then (atI z.cps.toList i).map fun c => .str ⟨#[c]⟩ else none := rfl
@[simp] theorem add_int (a b : Int) : aK (.int a) (.int b) = some (.int (a + b)) := rfl
@[simp] theorem add_str (a b : Str) : aK (.str a) (.str b) = if a.length + b.length ≤ sizeLine then some (.str (a ++ b)) else none := rfl
@[simp] theorem sub_int (a b : Int) : pV (.int a) (.int b) = some (.int (a - b)) := rfl
theorem mul_int (a b : Int) : dS (.int a) (.int b) = if CMul a b then some (.int (a * b)) else none := rfl
theorem mul_left {a b : Int} (h1 : -(2 ^ 64) < a) (h2 : a < 2 ^ 64) : dS (.int a) (.int b) = some (.int (a * b)) := by rw [mul_int, if_pos (.inl ⟨h1, h2⟩)]
theorem mul_right {a b : Int} (h1 : -(2 ^ 64) < b) (h2 : b < 2 ^ 64) : dS (.int a) (.int b) = some (.int (a * b)) := by rw [mul_int, if_pos (.inr ⟨h1, h2⟩)]
theorem mod_int {a b : Int} (h : 0 < b) : gp (.int a) (.int b) = some (.int (a % b)) := by
 show (if 0 < b then some (D.int (a % b)) else none) = _
 rw [if_pos h]
theorem qI {a b : Int} (h : 0 < b) (h2 : b < 1073741824) : jT (.int a) (.int b) = some (.int (a / b)) := by
 show (if CDiv a b then some (D.int (a / b)) else none) = _
 rw [if_pos ⟨h, h2⟩]
@[simp] theorem fy (p : Int → Int → Bool) (a b : Int) : mE p (.int a) (.int b) = some (.bl (p a b)) := rfl
@[simp] theorem jx (a b : List D) : ff (.lst a) (.lst b) = if a.length + b.length ≤ sizeLine then some (.lst (a ++ b)) else none := rfl
@[simp] theorem Ek (neg : Bool) (x : D) : dIs neg x .non = some (.bl (if neg then !x.isNon else x.isNon)) := rfl
@[simp] theorem BD : D.isNon .non = true := rfl
@[simp] theorem Bz (i : Int) : D.isNon (.int i) = false := rfl
@[simp] theorem BB (i : List D) : D.isNon (.lst i) = false := rfl
@[simp] theorem eI (neg : Bool) (a b : Str) : aG neg (.str a) (.str b) = some (.bl (if neg then !decide (a = b) else decide (a = b))) := rfl
@[simp] theorem lQ (neg : Bool) (a b : Int) : aG neg (.int a) (.int b) = some (.bl (if neg then !decide (a = b) else decide (a = b))) := by
 have h1 : (SeqAt.shaped (PyData.int a) && SeqAt.shaped (PyData.int b)) = true := by rfl
 show (if (SeqAt.shaped (PyData.int a) && SeqAt.shaped (PyData.int b)) = true then some (D.bl (if neg then !PyData.eqv (.int a) (.int b) else PyData.eqv (.int a) (.int b))) else none) = _
 rw [if_pos h1]
 have : PyData.eqv (.int a) (.int b) = decide (a = b) := by simp [PyData.eqv]; rfl
 rw [this]
@[simp] theorem eJ (xs : List D) : bT [.lst xs] = some (.int xs.length) := rfl
@[simp] theorem DU (ks : List Key) (xs : List D) : bT [.dic ks xs] = some (.int ks.length) := rfl
@[simp] theorem D9 (xs : List D) : bT [.scr xs] = some (.int xs.length) := rfl
@[simp] theorem DZ (xs : List D) : bT [.tup xs] = some (.int xs.length) := rfl
@[simp] theorem len_str (z : Str) : bT [.str z] = if z.length ≤ sizeLine then some (.int z.length) else none := rfl
@[simp] theorem int_int (i : Int) : ir [.int i] = some (.int i) := rfl
@[simp] theorem DV (i : Int) : Du [.int i] = some (.int (if i < 0 then -i else i)) := rfl
@[simp] theorem BN (xs : List D) : dList [.lst xs] = some (.lst xs) := rfl
@[simp] theorem tE (b : Bool) : dR (.bl b) = some b := rfl
@[simp] theorem Dy (xs : List D) : D.walk? (.lst xs) = some xs := rfl
@[simp] theorem walk_str (z : Str) : D.walk? (.str z) = some (signs z) := rfl
abbrev dN (ns : List Nat) : List D := ns.map fun n => .int (n : Nat)
theorem yd (ns : List Nat) : gY (dN ns) = some (ns.map fun n => V.int ((n : Nat) : Int)) := by
 induction ns with
 | nil => rfl
 | cons n ns ih => simp [gY, D.flat?, ih]
theorem Bj (n : Nat) (ns : List Nat) : inV (V.int n) (ns.map fun n => V.int ((n : Nat) : Int)) = decide (n ∈ ns) := by
 induction ns with
 | nil => simp [inV]
 | cons m ns ih =>
  unfold inV at *
  simp only [List.map_cons, List.any_cons, ih]
  have : eqV (V.int m) (V.int n) = decide (m = n) := by
   show decide ((m : Int) = (n : Int)) = _
   by_cases h : m = n
   ·simp [h]
   ·have : ¬ (m : Int) = n := by omega
    simp [h, this]
  rw [this]
  by_cases h : m = n
  ·simp [h]
  ·simp [h, Ne.symm h]
@[simp] theorem Fk (neg : Bool) (n : Nat) (ns : List Nat) : dIn neg (.int n) (.lst (dN ns)) = some (.bl (if neg then !decide (n ∈ ns) else decide (n ∈ ns))) := by
 have := Bj n ns
 simp only [dIn, D.items?, Option.bind_some, yd, D.flat?, Option.map_some, this]
@[simp] theorem qX (neg : Bool) (c : Nat) (z : Str) : dIn neg (.str ⟨#[c]⟩) (.str z) = some (.bl (if neg then !decide (c ∈ z.cps.toList) else decide (c ∈ z.cps.toList))) := rfl
theorem oO {z : Str} {n : Nat} (hz : z.length ≤ sizeLine) (h : n < z.cps.toList.length) : dIx (.str z) (.int n) = some (.str ⟨#[z.cps.toList[n]]⟩) := by
 rw [ix_str, if_pos hz, fj, List.getElem?_eq_getElem h]; rfl
@[simp] theorem Em {p : Prop} [Decidable p] (a b : Bool) (e : En) : (if p then some (a, e) else some (b, e)) = some (if p then a else b, e) := by split <;> rfl
theorem iI (z : Str) : z.cps.toList.length = z.length := by simp [Str.length]
@[simp] theorem Bx (z : Str) : (signs z).length = z.length := by unfold signs; rw [List.length_map, iI]
theorem va : -((2 : Int) ^ 62) ≤ 0 := by decide
theorem uy : (10001 : Int) ≤ 2 ^ 62 := by decide
theorem zP (c : Int → Prop) [inst : ∀ j, Decidable (c j)] (n : Int) (h : c n) (e : En) : ((some ([D.int n], e)).bind fun p => match p.1 with
 | [.int j] => if c j then some (ef 0 j.toNat, p.2) else none
 | _ => none) = some (ef 0 n.toNat, e) := by simp [h]
theorem yo (c : Int → Int → Prop) [inst : ∀ i j, Decidable (c i j)] (k n : Int) (h : c k n) (e : En) : ((some ([D.int k, D.int n], e)).bind fun p => match p.1 with
 | [.int i, .int j] => if c i j then some (ef i (j - i).toNat, p.2) else none
 | _ => none) = some (ef k (n - k).toNat, e) := by simp [h]
theorem lE {a : En → Option (List D × En)} {env e : En} {n : Nat} (h : a env = some ([.int (n : Int)], e)) (hn : n ≤ 10000) : iR1 a env = some (ef 0 n, e) := by
 have h1 : -((2 : Int) ^ 62) ≤ n := Int.le_trans va (Int.natCast_nonneg n)
 have h2 : (n : Int) < 2 ^ 62 := Int.lt_of_lt_of_le (show (n : Int) < 10001 by omega) uy
 unfold iR1; rw [h]
 have := zP (fun j => -((2 : Int) ^ 62) ≤ j ∧ j < 2 ^ 62) n ⟨h1, h2⟩ e
 rw [Int.toNat_natCast] at this
 exact this
theorem zu {a : En → Option (List D × En)} {env e : En} {k n : Nat} (h : a env = some ([.int (k : Int), .int (n : Int)], e)) (hk : k ≤ 10000) (hn : n ≤ 10000) : iR2 a env = some (ef k (n - k), e) := by
 have h1 : -((2 : Int) ^ 62) ≤ n := Int.le_trans va (Int.natCast_nonneg n)
 have h2 : (n : Int) < 2 ^ 62 := Int.lt_of_lt_of_le (show (n : Int) < 10001 by omega) uy
 have h3 : -((2 : Int) ^ 62) ≤ k := Int.le_trans va (Int.natCast_nonneg k)
 have h4 : (k : Int) < 2 ^ 62 := Int.lt_of_lt_of_le (show (k : Int) < 10001 by omega) uy
 have h5 : ((n : Int) - k).toNat = n - k := by omega
 unfold iR2; rw [h]
 have := yo (fun i j => -((2 : Int) ^ 62) ≤ i ∧ i < 2 ^ 62 ∧ -((2 : Int) ^ 62) ≤ j ∧ j < 2 ^ 62) k n ⟨h3, h4, h1, h2⟩ e
 rw [h5] at this
 exact this
theorem inv (P : Nat → En → Prop) : ∃ P', P' = P := ⟨P, rfl⟩
theorem szS {n : Nat} (h : n ≤ 10000) : n ≤ sizeLine := Nat.le_trans h rW
theorem szL {n : Nat} (h : n < 10000) : n < sizeLine := Nat.lt_of_lt_of_le h rW
theorem rR {p : Prop} [Decidable p] (h : p) : decide p = true := decide_eq_true h
theorem mx {p : Prop} [Decidable p] (h : ¬p) : decide p = false := decide_eq_false h
@[simp] theorem EK (env : En) (n : Nat) (d : D) : (Ag.imm d).slot env n = some (.imm d) := rfl
@[simp] theorem By (env : En) (n : Nat) : cE env n [] = some [] := rfl
@[simp] theorem AC (env : En) (n : Nat) (a : Ag) (as : List Ag) : cE env n (a :: as) = (a.slot env n).bind fun s => (cE env (n + (if a.ioOf.isSome then 1 else 0)) as).map fun r => s :: r := rfl
@[simp] theorem Es (env : En) (n i : Nat) : (Ag.bor i).slot env n = (match env[i]? with
  | some (.imm d) => some (.imm d)
  | some s => s.rd.map .bor
  | none => none) := rfl
@[simp] theorem E8 (env : En) (n i : Nat) : (Ag.io i).slot env n = (env[i]?.bind Sl.own?).map fun d => .io n d := rfl
@[simp] theorem E1 (d : D) : (Ag.imm d).ioOf = none := rfl
@[simp] theorem E3 (i : Nat) : (Ag.bor i).ioOf = none := rfl
@[simp] theorem Fd (i : Nat) : (Ag.io i).ioOf = some i := rfl
end Q
namespace Q
open PySem L2
def eK (e : En) : List Nat → Nat → Option (List D)
 | [], _ => some []
 | j :: js, n => match e[j]? with
  | some (.io n' d) => if n' = n then (eK e js (n + 1)).map fun ds => d :: ds else none
  | _ => none
def putAll : List Nat → List D → En → En
 | i :: is, d :: ds, env => putAll is ds (b7 env i d)
 | _, _, env => env
def gH (N : List Str) (mf : MS) (ss : List Sl) (js : List Nat) : Option (Md × D × List D) := (mf (ss ++ List.replicate (N.length - ss.length) .un)).bind fun fl => match fl with
 | .nx e => (eK e js 0).map fun ds => (.imm, .non, ds)
 | .ret md d e => (eK e js 0).map fun ds => (md, d, ds)
 | _ => none
def res (N : List Str) (mf : MS) (ss : List Sl) (js : List Nat) : Option (D × List D) := (gH N mf ss js).map fun r => r.2
def yP (N : List Str) (mf : MS) (ss : List Sl) (js : List Nat) : Option (D × List D) := (gH N mf ss js).bind fun r => match r.1 with
 | .new => some r.2
 | .imm => none
theorem lK (cenv : En) : ∀ (is js : List Nat) (n : Nat) (env : En), is.length = js.length → dU cenv n is js env = (eK cenv js n).map fun ds => putAll is ds env
 | [], [], n, env, _ => rfl
 | i :: is, [], n, env, h => by cases h
 | [], j :: js, n, env, h => by cases h
 | i :: is, j :: js, n, env, h => by
  unfold dU eK
  cases hj : cenv[j]? with
  | none => rfl
  | some s =>
   cases s with
   | io n' d =>
    by_cases hn : n' = n
    ·simp only [hn, if_true]
     rw [lK cenv is js (n + 1) _ (by simpa using h)]
     cases eK cenv js (n + 1) <;> rfl
    ·simp only [hn, if_false]; rfl
   | _ => rfl
theorem nQ : ∀ (as : List Ag) (n : Nat), (bG as).length = (bO n as).length
 | [], n => rfl
 | a :: as, n => by
  have := nQ as (n + 1)
  unfold bO
  cases a with
  | imm d => exact this
  | bor i => exact this
  | io i => show (bG as).length + 1 = (bO (n + 1) as).length + 1; rw [this]
theorem tH (N : List Str) (mf : MS) (a : MG) (env : En) : fG N mf a env = (a env).bind fun p => if apart p.1 = true then (cE p.2 0 p.1).bind fun ss => (gH N mf ss (bO 0 p.1)).map fun r => (r.1, r.2.1, putAll (bG p.1) r.2.2 p.2) else none := by
 unfold fG gH
 cases ha : a env with
 | none => rfl
 | some p =>
  simp only [Option.bind_some]
  by_cases h : apart p.1 = true
  ·rw [if_pos h, if_pos h]
   cases hs : cE p.2 0 p.1 with
   | none => rfl
   | some ss =>
    simp only [Option.bind_some]
    cases hf : mf (ss ++ List.replicate (N.length - ss.length) .un) with
    | none => rfl
    | some fl =>
     cases fl with
     | nx e => simp only [Option.bind_some]; rw [lK _ _ _ _ _ (nQ _ _)]; cases eK e (bO 0 p.1) 0 <;> rfl
     | ret md d e => simp only [Option.bind_some]; rw [lK _ _ _ _ _ (nQ _ _)]; cases eK e (bO 0 p.1) 0 <;> rfl
     | bk e => rfl
     | ct e => rfl
  ·rw [if_neg h, if_neg h]
theorem cU (N : List Str) (np : Nat) (mf : MS) (a : MG) (env : En) : ak N np mf a env = (a env).bind fun p => if p.1.length = np ∧ apart p.1 = true then (cE p.2 0 p.1).bind fun ss => (res N mf ss (bO 0 p.1)).map fun r => (r.1, putAll (bG p.1) r.2 p.2) else none := by
 unfold ak
 rw [tH]
 unfold res
 cases ha : a env with
 | none => simp
 | some p =>
  simp only [Option.bind_some, Option.map_some, Option.some.injEq]
  by_cases h1 : p.1.length = np
  ·by_cases h2 : apart p.1 = true
   ·simp only [h1, h2, if_true, and_self]
    cases hs : cE p.2 0 p.1 with
    | none => rfl
    | some ss => simp only [Option.bind_some]; cases gH N mf ss (bO 0 p.1) <;> rfl
   ·simp [h1, h2]
  ·simp [h1]
def RtA (js : List Nat) (R : Md → D → List D → Prop) : Fl → Prop
 | .nx e => Gt (eK e js 0) fun ds => R .imm .non ds
 | .ret md d e => Gt (eK e js 0) fun ds => R md d ds
 | _ => False
@[simp] theorem Eh (js : List Nat) (R : Md → D → List D → Prop) (e : En) : RtA js R (.nx e) ↔ Gt (eK e js 0) fun ds => R .imm .non ds := Iff.rfl
@[simp] theorem cK (js : List Nat) (R : Md → D → List D → Prop) (md : Md) (d : D) (e : En) : RtA js R (.ret md d e) ↔ Gt (eK e js 0) fun ds => R md d ds := Iff.rfl
@[simp] theorem ck (e : En) (n : Nat) : eK e [] n = some [] := rfl
@[simp] theorem kP (e : En) (j n : Nat) (js : List Nat) : eK e (j :: js) n = (e[j]?).bind fun s => match s with
  | .io n' d => if n' = n then (eK e js (n + 1)).map fun ds => d :: ds else none
  | _ => none := by
 rw [eK]
 cases e[j]? with
 | none => rfl
 | some s => cases s <;> rfl
theorem xi {N : List Str} {mf : MS} {ss : List Sl} {js : List Nat} {R : Md → D → List D → Prop} (h : W mf (ss ++ List.replicate (N.length - ss.length) .un) (RtA js R)) : ∃ md d ds, R md d ds ∧ gH N mf ss js = some (md, d, ds) := by
 obtain ⟨fl, h1, h2⟩ := h
 unfold gH
 rw [h1]
 cases fl with
 | nx e => obtain ⟨ds, q, r⟩ := h2; exact ⟨_, _, ds, r, by simp only [Option.bind_some]; rw [q]; rfl⟩
 | ret md d e => obtain ⟨ds, q, r⟩ := h2; exact ⟨_, _, ds, r, by simp only [Option.bind_some]; rw [q]; rfl⟩
 | bk e => exact h2.elim
 | ct e => exact h2.elim
theorem zN {N : List Str} {mf : MS} {ss : List Sl} {js : List Nat} {R : D → List D → Prop} (h : W mf (ss ++ List.replicate (N.length - ss.length) .un) (RtA js fun _ d ds => R d ds)) : ∃ d ds, R d ds ∧ res N mf ss js = some (d, ds) := by
 obtain ⟨md, d, ds, r, q⟩ := xi h
 exact ⟨d, ds, r, by unfold res; rw [q]; rfl⟩
theorem cg {N : List Str} {mf : MS} {ss : List Sl} {js : List Nat} {x : D} {xs : List D} (h : W mf (ss ++ List.replicate (N.length - ss.length) .un) (RtA js fun _ d ds => d = x ∧ ds = xs)) : res N mf ss js = some (x, xs) := by
 obtain ⟨d, ds, ⟨rfl, rfl⟩, q⟩ := zN h
 exact q
@[simp] theorem BC : apart [] = true := rfl
@[simp] theorem Ec : bG [] = [] := rfl
@[simp] theorem DW (d : D) (as : List Ag) : bG (.imm d :: as) = bG as := rfl
@[simp] theorem x8 (i : Nat) (as : List Ag) : bG (.bor i :: as) = bG as := rfl
@[simp] theorem yw (i : Nat) (as : List Ag) : bG (.io i :: as) = i :: bG as := rfl
@[simp] theorem BU : eN [] = [] := rfl
@[simp] theorem Cf (d : D) (as : List Ag) : eN (.imm d :: as) = eN as := rfl
@[simp] theorem um (i : Nat) (as : List Ag) : eN (.bor i :: as) = i :: eN as := rfl
@[simp] theorem xD (i : Nat) (as : List Ag) : eN (.io i :: as) = eN as := rfl
@[simp] theorem DS (n : Nat) : bO n [] = [] := rfl
@[simp] theorem DX (n : Nat) (d : D) (as : List Ag) : bO n (.imm d :: as) = bO (n + 1) as := rfl
@[simp] theorem D5 (n i : Nat) (as : List Ag) : bO n (.bor i :: as) = bO (n + 1) as := rfl
@[simp] theorem Eo (n i : Nat) (as : List Ag) : bO n (.io i :: as) = n :: bO (n + 1) as := rfl
@[simp] theorem BG (d : D) (as : List Ag) : apart (.imm d :: as) = apart as := rfl
@[simp] theorem BA (i : Nat) (as : List Ag) : apart (.bor i :: as) = (decide (i ∉ bG as) && apart as) := by
 unfold apart
 rw [Bool.eq_iff_iff]
 simp only [x8, um, List.all_cons, Bool.and_eq_true]
 constructor
 ·rintro ⟨h1, h2, h3⟩; exact ⟨h2, h1, h3⟩
 ·rintro ⟨h2, h1, h3⟩; exact ⟨h1, h2, h3⟩
@[simp] theorem BJ (i : Nat) (as : List Ag) : apart (.io i :: as) = (decide (i ∉ bG as) && (decide (i ∉ eN as) && apart as)) := by
 unfold apart
 simp only [yw, xD]
 rw [Bool.eq_iff_iff]
 simp only [Bool.and_eq_true, decide_eq_true_eq, List.nodup_cons, List.all_eq_true, List.mem_cons, not_or]
 constructor
 ·rintro ⟨⟨h1, h2⟩, h3⟩
  exact ⟨h1, fun z => (h3 i z).1 rfl, h2, fun k hk => (h3 k hk).2⟩
 ·rintro ⟨h1, h2, h3, h4⟩
  exact ⟨⟨h1, h3⟩, fun k hk => ⟨fun z => h2 (z ▸ hk), h4 k hk⟩⟩
@[simp] theorem A4 (env : En) (ds : List D) : putAll [] ds env = env := by cases ds <;> rfl
@[simp] theorem Af (i : Nat) (is : List Nat) (d : D) (ds : List D) (env : En) : putAll (i :: is) (d :: ds) env = putAll is ds (b7 env i d) := rfl
@[simp] theorem Ez (a : ME) (env : En) : DA a env = (a env).bind fun p => match p.1 with
 | .int i => some (.int (-i), p.2)
 | _ => none := rfl
theorem qK {α : Type} {o : Option α} {f : α → Option Fl} {Q : Fl → Prop} : (∃ fl, o.bind f = some fl ∧ Q fl) ↔ Gt o fun a => ∃ fl, f a = some fl ∧ Q fl := by
 cases o <;> simp [Gt]
theorem sT {c : Prop} [Decidable c] {x : Fl} {Q : Fl → Prop} : (∃ fl, (if c then some x else none) = some fl ∧ Q fl) ↔ c ∧ Q x := by
 by_cases h : c <;> simp [h]
@[simp] theorem E4 {i : Nat} {x y : ME} {env : En} {Q : Fl → Prop} : W (vU i x y) env Q ↔ Gt (x env) fun p => Gt (pk p.2 i) fun _ => Gt (y p.2) fun q => Gt (pk q.2 i) fun kx => Gt (q.1.key?) fun k => kx.2.length < sizeLine ∧ Q (.nx (b7 q.2 i (.dic (vt k kx.1) (wj k p.1 kx.1 kx.2)))) := by
 simp only [W, vU, qK, sT]
@[simp] theorem Ey {i : Nat} {x y : ME} {env : En} {Q : Fl → Prop} : W (vO i x y) env Q ↔ Gt (x env) fun p => Gt (pF p.2 i) fun _ => Gt (y p.2) fun q => Gt (pF q.2 i) fun kx => Gt (wc q.1) fun k => kx.2.length < sizeLine ∧ Q (.nx (b7 q.2 i (.dcn (putN k kx.1) (yz k p.1 kx.1 kx.2)))) := by
 simp only [W, vO, qK, sT]
@[simp] theorem DQ (env : En) (i : Nat) : pk env i = (env[i]?).bind fun s => (s.own?).bind fun d => match d with
 | .dic ks xs => some (ks, xs)
 | _ => none := rfl
@[simp] theorem DR (env : En) (i : Nat) : pF env i = (env[i]?).bind fun s => (s.own?).bind fun d => match d with
 | .dcn ks xs => some (ks, xs)
 | _ => none := rfl
@[simp] theorem D1 (i : Int) : D.key? (.int i) = some (.inl i) := rfl
end Q
namespace Q
open PySem L2
theorem AH {stop : Bool} {vs : List Nat} {mi : MI} {gf : D → En → Option En} {mt : MT} {me : ME} {env e0 : En} {ds : List D} (hi : mi env = some (ds, e0)) (hc : gc e0 vs = true) (p : Nat → Bool) (E : En → Prop) (hE : E e0)
  (hs : ∀ i d e, ds[i]? = some d → E e → ∃ e1 b e2, gf d (bY e vs) = some e1 ∧ mt e1 = some (b, e2) ∧ (b = true → ∃ e3, me e2 = some (.bl (p i), e3) ∧ E e3) ∧ (b = false → E e2 ∧ p i = !stop)) :
  ∃ e2, mGx stop vs mi gf mt me env = some (.bl (if ∃ i, i < ds.length ∧ p i = stop then stop else !stop), cW e0 (bY e2 vs) vs) ∧ E e2 := by
 have key : ∀ (ds : List D) (p : Nat → Bool) (e : En), E e → (∀ i d e, ds[i]? = some d → E e → ∃ e1 b e2, gf d (bY e vs) = some e1 ∧ mt e1 = some (b, e2) ∧ (b = true → ∃ e3, me e2 = some (.bl (p i), e3) ∧ E e3) ∧ (b = false → E e2 ∧ p i = !stop)) →
   ∃ e2, fk stop gf mt me vs ds e = some (if ∃ i, i < ds.length ∧ p i = stop then stop else !stop, e2) ∧ E e2 := by
  intro ds
  induction ds with
  | nil => intro p e hE _; exact ⟨e, by simp [fk], hE⟩
  | cons d ds ih =>
   intro p e hE hs
   obtain ⟨e1, b, e2, h1, h2, h3, h4⟩ := hs 0 d e rfl hE
   have step : ∀ e', E e' → p 0 ≠ stop → ∃ e2, fk stop gf mt me vs ds e' = some (if ∃ i, i < (d :: ds).length ∧ p i = stop then stop else !stop, e2) ∧ E e2 := fun e' hE' hp => by
    obtain ⟨e4, q1, q2⟩ := ih (fun i => p (i + 1)) e' hE' fun i d' e'' hd he => hs (i + 1) d' e'' (by simpa using hd) he
    refine ⟨e4, ?_, q2⟩
    rw [q1]
    have : (∃ i, i < ds.length ∧ p (i + 1) = stop) ↔ ∃ i, i < (d :: ds).length ∧ p i = stop := by
     constructor
     ·rintro ⟨i, a, b⟩; exact ⟨i + 1, by simpa using a, b⟩
     ·rintro ⟨i, a, b⟩
      cases i with
      | zero => exact absurd b hp
      | succ i => exact ⟨i, by simpa using a, b⟩
    simp only [this]
   cases b with
   | true =>
    obtain ⟨e3, h5, h6⟩ := h3 rfl
    by_cases hp : p 0 = stop
    ·refine ⟨e3, ?_, h6⟩
     simp only [fk, h1, h2, h5, Option.bind_some, if_true, hp]
     rw [if_pos ⟨0, by simp, hp⟩]
    ·obtain ⟨e4, q1, q2⟩ := step e3 h6 hp
     exact ⟨e4, by simp only [fk, h1, h2, h5, Option.bind_some, if_true]; rw [if_neg hp, q1], q2⟩
   | false =>
    obtain ⟨h5, h6⟩ := h4 rfl
    obtain ⟨e4, q1, q2⟩ := step e2 h5 (by rw [h6]; cases stop <;> simp)
    exact ⟨e4, by simp only [fk, h1, h2, Option.bind_some, Bool.false_eq_true, if_false]; rw [q1], q2⟩
 obtain ⟨e2, h1, h2⟩ := key ds p e0 hE hs
 exact ⟨e2, by simp only [mGx, hi, Option.bind_some, hc, if_true, h1, Option.map_some], h2⟩
@[simp] theorem Ej (n : Nat) (r : List D → En → Option En) (xs : List D) (env : En) : gT n r (.tup xs) env = if xs.length = n then r xs env else none := rfl
@[simp] theorem ER (env : En) : dk [] env = some env := rfl
@[simp] theorem Ef (f : D → En → Option En) (r : List D → En → Option En) (d : D) (ds : List D) (env : En) : aT f r (d :: ds) env = (f d env).bind fun e => r ds e := rfl
@[simp] theorem DP (a : En → Option (List D × En)) (env : En) : Ca a env = (a env).bind fun p => match p.1 with
 | [.str z] => some (fC 0 (signs z), p.2)
 | _ => none := rfl
@[simp] theorem iH (a : ME) (b : ML) (env : En) : d7 a b env = (a env).bind fun p => (b p.2).bind fun q => match p.1 with
 | .str x => (q.1.get q.2).bind fun d => (gS x d).map fun z => (z, q.2)
 | _ => none := rfl
@[simp] theorem BH (f f' : D → D → Option D) (a b c : ML) (env : En) : iR f f' a b c env = (a env).bind fun p => (b p.2).bind fun q => (p.1.get q.2).bind fun x => (q.1.get q.2).bind fun y => (f x y).bind fun z => match z with
 | .bl true => (c q.2).bind fun r => (q.1.get r.2).bind fun y => (r.1.get r.2).bind fun w => (f' y w).map fun z => (z, r.2)
 | .bl false => some (.bl false, q.2)
 | _ => none := rfl
@[simp] theorem EH (neg a b : Bool) : C7 neg (.bl a) (.bl b) = some (.bl (xor neg (a == b))) := rfl
end Q
namespace Q
open PySem L2
def sd (c : String) (f : Str) (v : D) : D → Option D
 | .obj c' ks xs => if c' = c ∧ ks.length < 1000 ∧ xs.length < 1000 then some (.obj c (o7 f ks) (o6 f v ks xs)) else none
 | _ => none
section
variable {env e : En} {Q : Fl → Prop} {i : Nat} {x : ME} {c : String} {f : Str}
@[simp] theorem Ep : W (wo c f i x) env Q ↔ Gt (x env) fun p => Gt (p.2[i]?.bind Sl.own?) fun d => Gt (sd c f p.1 d) fun z => Q (.nx (b7 p.2 i z)) := by
 simp only [Gt]
 unfold W wo sd
 cases h1 : x env with
 | none => simp
 | some p =>
  cases h2 : p.2[i]?.bind Sl.own? with
  | none => simp [h2]
  | some d =>
   cases d with
   | obj c' ks xs => by_cases hl : c' = c ∧ ks.length < 1000 ∧ xs.length < 1000 <;> simp [hl, h2]
   | _ => simp [h2]
def yO (c : String) (f : Str) (j : Int) (d : D) : Option D := (qh c f d).bind fun v => match v with
 | .int v => sd c f (.int (v + j)) d
 | _ => none
@[simp] theorem EA {j : Int} : W (vV c f i j) env Q ↔ Gt (env[i]?.bind Sl.own?) fun d => Gt (yO c f j d) fun z => Q (.nx (b7 env i z)) := by
 simp only [Gt]
 unfold W vV yO sd
 cases h2 : env[i]?.bind Sl.own? with
 | none => simp
 | some d =>
  cases h3 : qh c f d with
  | none => simp [h3]
  | some v =>
   cases v with
   | int v =>
    cases d with
    | obj c' ks xs =>
     by_cases hl : c' = c ∧ ks.length < 1000 ∧ xs.length < 1000
     ·obtain ⟨rfl, a, b⟩ := hl
      simp [h3, a, b]
     ·simp [hl, h3]
    | _ => simp [h3]
   | _ => simp [h3]
@[simp] theorem iN {gf : D → En → Option En} : W (gy gf x) env Q ↔ Gt (x env) fun p => Gt (gf p.1 p.2) fun e => Q (.nx e) := by
 unfold W gy Gt
 constructor
 ·rintro ⟨fl, h, q⟩
  obtain ⟨p, h1, h2⟩ := Option.bind_eq_some_iff.mp h
  obtain ⟨e, h3, rfl⟩ := Option.map_eq_some_iff.mp h2
  exact ⟨p, h1, e, h3, q⟩
 ·rintro ⟨p, h1, e, h3, q⟩
  exact ⟨.nx e, by rw [h1]; simp [h3], q⟩
@[simp] theorem EL : W (vF x) env Q ↔ Gt (x env) fun p => Q (.nx p.2) := by
 rw [fJ]
 unfold W vF
 cases h : x env <;> simp
end
@[simp] theorem BF (c : String) (m : Str) (i : Nat) (r : MG) (env : En) : wX c m i r env = (env[i]?.bind Sl.own?).bind fun d => if isObj c m d = true then (r env).map fun q => (.io i :: q.1, q.2) else none := rfl
@[simp] theorem D7 (c : String) (m : Str) (a : ME) (r : MG) (env : En) : An c m a r env = (a env).bind fun p => if isObj c m p.1 = true then (r p.2).map fun q => (.imm p.1 :: q.1, q.2) else none := rfl
@[simp] theorem DI (neg a b : Bool) : aG neg (.bl a) (.bl b) = some (.bl (if neg then !decide (a = b) else decide (a = b))) := by cases neg <;> cases a <;> cases b <;> rfl
end Q
namespace Q
open PySem PySem.Spec PyProof.Rows L2 CwR
section
variable {Z : Zc}
structure mF (P : Program) (w : World) (K : PySem.W.Frag) (mg : Str → Option Value) (base : Heap) (CX : CXT) (k : Nat) (f : Addr) (fd : FuncData) (ps : List Str) (sp : Sp) : Prop where
 ar : ∀ {vs H Q E}, sp vs H Q E → vs.length = ps.length
 go : ∀ {A : Around} {outer : List Env} {s : Shared} {H : Hp} {args : Args} {us : List Value} {vs : List V} {Q : VK} {E : XK}, 1 ≤ s.toks → Room k A → cR A →
  Env0 P w K mg base A outer s H → BindsTo s fd args (ps.zip us) → Vals vs us → sp vs H Q E → codeAny (model P w) A (.call (.ref f) args) (CR CX outer P w H s Q E) s
theorem mF.runs {X : Cx} {CX : CXT} {k : Nat} {f : Addr} {fd : FuncData} {ps : List Str} {sp : Sp} {E : XK} {pins : List (Addr × Obj)} {σ : L2.St} {H : Hp} {s : Shared} {Q : VK} {us : List Value} {vs : List V} (F : mF X.prog X.w X.K X.mg X.base CX k f fd ps sp) (h0 : 1 ≤ s.toks) (hr : Room k X.A) (g : cR X.A) (hb : Binds X.K fd ps []) (hx : Passes CX X E) (I : Inv X pins σ H s) (r : Vals vs us)
  (h : sp vs H Q E) : wpAny (model X.prog X.w) X.A (call (.ref f) us) (EP X pins σ Q) X.xe s :=
 wpAny_call (codeAny_mono (F.go h0 hr g I.env0 (binds0 hb I (r.length.symm.trans (F.ar h))) r h) fun a b q => match a, q with
  | .error e, q => hx pins σ H s e b I q
  | .ok (.ret u), q => I.after q
  | .ok .next, q => q.elim
  | .ok .brk, q => q.elim
  | .ok .cont, q => q.elim)
structure zZ (Z : Zc) (x : Str) (N : List Str) (np : Nat) (mf : MS) : Prop where
 ex : ∃ (f : Addr) (fd : FuncData) (ps : List Str), mF Z.P Z.w Z.K Z.mg Z.base CX0 Z.k f fd ps (spM Z.K Z.cl N np mf) ∧ Z.mg x = some (.ref f) ∧ PySem.W.keepIn Z.K (.ref f) = true ∧ Binds Z.K fd ps []
end
end Q
namespace Q
open PySem PySem.Spec PyProof.Rows L2 CwR
structure sq (c : Pc) (k : Nat) (x : Str) (N : List Str) (np : Nat) (mf : MS) : Prop where
 ex : ∃ (f : Addr) (fd : FuncData) (ps : List Str), mF c.P c.w c.K c.mg c.base CX0 k f fd ps (spM c.K c.cl N np mf) ∧ c.mg x = some (.ref f) ∧ PySem.W.keepIn c.K (.ref f) = true ∧ Binds c.K fd ps []
theorem mF.mono {P : Program} {w : World} {K : PySem.W.Frag} {mg : Str → Option Value} {base : Heap} {CX : CXT} {j k : Nat} {f : Addr} {fd : FuncData} {ps : List Str} {sp : Sp} (F : mF P w K mg base CX j f fd ps sp) (h : j ≤ k) : mF P w K mg base CX k f fd ps sp := ⟨F.ar, fun h0 hr => F.go h0 (hr.mono h)⟩
section
variable {c : Pc} {j k np : Nat} {x m : Str} {N M : List Str} {mf : MS} {sc s1 : Scope} {me : Option (Addr × Addr)}
theorem sq.z (F : sq c j x M np mf) (h : j ≤ k) : zZ (c.z k N sc me) x M np mf := let ⟨f, fd, ps, h1, h2⟩ := F.ex; ⟨f, fd, ps, h1.mono h, h2⟩
theorem sq.zb (F : sq c j x M np mf) (h : j ≤ k) : zZ (ZB (c.z k N sc me) s1) x M np mf := let ⟨f, fd, ps, h1, h2⟩ := F.ex; ⟨f, fd, ps, h1.mono h, h2⟩
end
end Q
namespace Q
open PySem L2
section
variable {Z : Zc}
def wb (x y : D) : Option D := match x with
 | .lst ds => (gY ds).bind fun vs => y.flat?.bind fun v => (vs.findIdx? fun z => eqV z v).map fun j => .int (j : Nat)
 | _ => none
def D.isLst : D → Bool
 | .lst _ => true
 | _ => false
def Ao (a b : ML) : ME := fun env => (a env).bind fun p => if (p.1.get p.2).map D.isLst = some true then (b p.2).bind fun q => (p.1.get q.2).bind fun x => (q.1.get q.2).bind fun y => (wb x y).map fun z => (z, q.2) else none
end
end Q
namespace Q
open PySem L2
end Q
namespace Q
open PySem L2
section
variable {K : PySem.W.Frag} {cl : String → Option Addr} {g : G} {env ep : En} {σ : St} {I H : Hp} {is : List Nat}
def u3 (env : En) (σ : St) (is : List Nat) (a : Addr) : Prop := ∃ k d, k ∈ is ∧ env[k]? = some (.own d) ∧ σ[k]? = some (some (.ref a))
open Classical in
noncomputable def vv (env : En) (σ : St) (is : List Nat) (I H : Hp) : Hp := fun a => if u3 env σ is a then H a else I a
theorem SR.own_facts (R : SR K cl g env σ I H) {k : Nat} {d : D} (hk : env[k]? = some (.own d)) {a : Addr} (ha : σ[k]? = some (some (.ref a))) : ∃ o, H a = some o ∧ bu K cl I d o ∧ I a = none ∧ g.H0 a = none := by
 obtain ⟨x, hx, b, o, e, h1, h2, h3, h4⟩ := R.at_ k _ hk
 rw [ha] at hx
 cases hx
 cases e
 exact ⟨o, h1, h2, h3, h4⟩
theorem u3.facts (R : SR K cl g env σ I H) {a : Addr} (h : u3 env σ is a) : I a = none ∧ g.H0 a = none ∧ ∃ o, H a = some o := by
 obtain ⟨k, d, _, h1, h2⟩ := h
 obtain ⟨o, q1, q2, q3, q4⟩ := R.own_facts h1 h2
 exact ⟨q3, q4, o, q1⟩
theorem lend_same (R : SR K cl g env σ I H) : Same I (vv env σ is I H) := fun a o e => by
 unfold vv
 rw [if_neg (fun h => by have := (h.facts R).1; rw [this] at e; cases e)]
 exact e
end
end Q
namespace Q
open PySem PySem.Spec L2 PyProof.Rows
end Q
namespace Q
open PySem L2
end Q
namespace Q
open PySem L2
section
variable {K : PySem.W.Frag} {cl : String → Option Addr} {g : G} {env : En} {σ : L2.St} {I H : Hp} {p : Addr} {o : HO} {d : D}
theorem SR.tail (R : SR K cl g env σ I H) (n : New g env σ I H p o) (r : bu K cl I d o) : SR K cl g (env ++ [.own d]) (σ ++ [some (.ref p)]) I H := by
 have low : ∀ (i : Nat) (s : Sl), (env ++ [Sl.own d])[i]? = some s → (i < env.length ∧ env[i]? = some s ∧ (σ ++ [some (V.ref p)])[i]? = σ[i]?) ∨ (i = env.length ∧ s = .own d ∧ (σ ++ [some (V.ref p)])[i]? = some (some (.ref p))) := fun i s h => by
  have hlen := R.len
  by_cases hi : i < env.length
  ·rw [List.getElem?_append_left hi] at h
   exact .inl ⟨hi, h, List.getElem?_append_left (by omega)⟩
  ·have hi2 : i = env.length := by
    have := (List.getElem?_eq_some_iff.mp h).1
    rw [List.length_append, List.length_singleton] at this
    omega
   subst hi2
   rw [List.getElem?_append_right (Nat.le_refl _), Nat.sub_self] at h
   cases h
   exact .inr ⟨rfl, rfl, by rw [hlen, List.getElem?_append_right (Nat.le_refl _), Nat.sub_self]; rfl⟩
 refine ⟨R.sub, R.i0, R.h0, R.hi, R.oh, by rw [List.length_append, List.length_append, R.len]; rfl, fun i s h => ?_, fun i j s s' a hij h1 h2 m t e1 e2 => ?_, fun a u hx => ⟨(R.ex a u hx).1, (R.ex a u hx).2.1, fun i s h ht e => ?_⟩, R.ex0, R.tb⟩
 ·rcases low i s h with ⟨_, h1, h2⟩ | ⟨rfl, rfl, h2⟩
  ·rw [h2]; exact R.at_ i s h1
  ·exact ⟨_, h2, p, o, rfl, n.at_, r, n.i, n.h0⟩
 ·rcases low i s h1 with ⟨_, a1, a2⟩ | ⟨rfl, rfl, a2⟩ <;> rcases low j s' h2 with ⟨_, b1, b2⟩ | ⟨rfl, rfl, b2⟩
  ·rw [a2] at e1; rw [b2] at e2
   exact R.dis i j s s' a hij a1 b1 m t e1 e2
  ·rw [a2] at e1; rw [b2] at e2
   cases e2
   exact n.no i s a1 (by cases s <;> first | rfl | cases m) e1
  ·rw [a2] at e1; rw [b2] at e2
   cases e1
   exact n.no j s' b1 t e2
  ·exact hij rfl
 ·rcases low i s h with ⟨_, h1, h2⟩ | ⟨rfl, rfl, h2⟩
  ·rw [h2] at e
   exact (R.ex a u hx).2.2 i s h1 ht e
  ·rw [h2] at e
   cases e
   exact n.x u hx
end
section
variable {Z : Zc}
theorem iW.push {I : Hp} {σ : L2.St} {x : Option V} {a : Ag} {v : V} (h : iW Z I σ a v) : iW Z I (σ ++ [x]) a v := by
 cases h with
 | imm r => exact .imm r
 | bor h => exact .bor (by rw [List.getElem?_append_left (List.getElem?_eq_some_iff.mp h).1]; exact h)
 | io h => exact .io (by rw [List.getElem?_append_left (List.getElem?_eq_some_iff.mp h).1]; exact h)
theorem cX.push {I : Hp} {σ : L2.St} {x : Option V} : ∀ {as : List Ag} {vs : List V}, cX Z I σ as vs → cX Z I (σ ++ [x]) as vs
 | _, _, .nil => .nil
 | _, _, .cons h t => .cons h.push (cX.push t)
end
end Q
namespace Q
open PySem L2
theorem CJ {α : Type} {x : Nat} {mi : MI} {mt : MT} {me : ME} {env0 env : En} {l : List α} {F : α → D} (hi : mi env0 = some (l.map F, env)) (hc : gc env [x] = true) (hl : l.length ≤ 10000) (f : α → Bool) (G : α → D)
  (h : ∀ a ∈ l, mt (env.set x (.imm (F a))) = some (f a, env.set x (.imm (F a))) ∧ (f a = true → me (env.set x (.imm (F a))) = some (G a, env.set x (.imm (F a))))) :
  mLc [x] mi (gN x) mt me env0 = some (.lst ((l.filter f).map G), env) := by
 have hx : x < env.length := by
  have hc := hc
  unfold gc at hc
  simp only [List.all_cons, List.all_nil, Bool.and_true] at hc
  cases e : env[x]? with
  | none => rw [e] at hc; cases hc
  | some s => exact (List.getElem?_eq_some_iff.mp e).1
 have key : ∀ (l : List α) (acc : List D) (s : Sl), acc.length + l.length ≤ 10000 → (∀ a ∈ l, mt (env.set x (.imm (F a))) = some (f a, env.set x (.imm (F a))) ∧ (f a = true → me (env.set x (.imm (F a))) = some (G a, env.set x (.imm (F a))))) →
   ∃ s', eH (gN x) mt me [x] (l.map F) acc (env.set x s) = some (acc ++ (l.filter f).map G, env.set x s') := by
  intro l
  induction l with
  | nil => intro acc s _ _; exact ⟨s, by simp [eH]⟩
  | cons a l ih =>
   intro acc s hl h
   obtain ⟨h1, h2⟩ := h a (by simp)
   rw [List.map_cons]
   unfold eH
   have e1 : gN x (F a) (bY (env.set x s) [x]) = some (env.set x (.imm (F a))) := by
    show gN x (F a) ((env.set x s).set x .un) = _
    rw [Ay, if_pos (by simpa using hx), List.set_set, List.set_set]
   simp only [e1, Option.bind_some, h1]
   simp only [List.length_cons] at hl
   cases hf : f a with
   | true =>
    simp only [if_true, h2 hf, Option.bind_some]
    rw [if_pos (szL (by omega))]
    obtain ⟨s', q⟩ := ih (acc ++ [G a]) (.imm (F a)) (by simp; omega) (fun b hb => h b (List.mem_cons_of_mem _ hb))
    exact ⟨s', by rw [q, List.filter_cons, if_pos hf]; simp⟩
   | false =>
    simp only [Bool.false_eq_true, if_false]
    obtain ⟨s', q⟩ := ih acc (.imm (F a)) (by omega) (fun b hb => h b (List.mem_cons_of_mem _ hb))
    exact ⟨s', by rw [q, List.filter_cons, if_neg (by rw [hf]; simp)]⟩
 obtain ⟨s', q⟩ := key l [] env[x] (by simpa using hl) h
 rw [List.set_getElem_self] at q
 unfold mLc
 simp only [hi, Option.bind_some, hc, if_true, q, Option.map_some, List.nil_append]
 have e4 : cW env (bY (env.set x s') [x]) [x] = env := by
  show cW env ((env.set x s').set x .un) [x] = env
  unfold cW
  rw [List.getElem?_eq_getElem hx]
  dsimp only
  unfold cW
  rw [List.set_set, List.set_set, List.set_getElem_self]
 rw [e4]
theorem Am {α : Type} {x : Nat} {mi : MI} {me : ME} {env0 env : En} {l : List α} {F : α → D} (hi : mi env0 = some (l.map F, env)) (hc : gc env [x] = true) (hl : l.length ≤ 10000) (G : α → D)
  (h : ∀ a ∈ l, me (env.set x (.imm (F a))) = some (G a, env.set x (.imm (F a)))) : mLc [x] mi (gN x) cZ me env0 = some (.lst (l.map G), env) := by
 have q := CJ (mt := cZ) hi hc hl (fun _ => true) G fun a ha => ⟨rfl, fun _ => h a ha⟩
 rw [List.filter_eq_self.mpr (fun _ _ => rfl)] at q
 exact q
@[simp] theorem DY (a b : ML) (env : En) : Ao a b env = (a env).bind fun p => if (p.1.get p.2).map D.isLst = some true then (b p.2).bind fun q => (p.1.get q.2).bind fun x => (q.1.get q.2).bind fun y => (wb x y).map fun z => (z, q.2) else none := rfl
@[simp] theorem BE (xs : List D) : (D.lst xs).isLst = true := rfl
end Q
namespace Q
open PySem L2
end Q
namespace Q
open PySem L2
end Q
namespace Q
open PySem L2
inductive aw where
 | fix (d : D) | at (j : Nat) | tup (cs : List aw)
inductive Cell where
 | dead | lst (lk : Bool) (cs : List aw) | obj (c : String) (ks : List Str) (cs : List aw)
abbrev Mem := List Cell
abbrev aD := List (Option aw)
def Cell.mut : Cell → Bool
 | .dead => false
 | .lst lk _ => !lk
 | .obj _ _ _ => true
def aw.fix? : aw → Option D
 | .fix d => some d
 | _ => none
def fixes : List aw → Option (List D)
 | [] => some []
 | c :: cs => c.fix?.bind fun d => (fixes cs).map fun ds => d :: ds
def Cell.flat : Cell → Option D
 | .dead => none
 | .lst _ cs => (fixes cs).map .lst
 | .obj c ks cs => (fixes cs).map (.obj c ks)
def Ext (As As' : List Addr) : Prop := ∀ (j : Nat) (a : Addr), As[j]? = some a → As'[j]? = some a
theorem Ext.refl (As : List Addr) : Ext As As := fun _ _ h => h
theorem Ext.trans {A B C : List Addr} (h : Ext A B) (k : Ext B C) : Ext A C := fun j a e => k j a (h j a e)
theorem Ext.app (As : List Addr) (p : Addr) : Ext As (As ++ [p]) := fun j a e => by
 rw [List.getElem?_append_left (List.getElem?_eq_some_iff.mp e).1]; exact e
mutual
inductive cM (K : PySem.W.Frag) (cl : String → Option Addr) (I : Hp) (As : List Addr) : aw → V → Prop
 | fix {d v} : Rep K cl I d v → cM K cl I As (.fix d) v
 | at {j a} : As[j]? = some a → cM K cl I As (.at j) (.ref a)
 | tup {a cs vs} : SqT K I a vs → bo K cl I As cs vs → cM K cl I As (.tup cs) (.ref a)
inductive bo (K : PySem.W.Frag) (cl : String → Option Addr) (I : Hp) (As : List Addr) : List aw → List V → Prop
 | nil : bo K cl I As [] []
 | cons {c v cs vs} : cM K cl I As c v → bo K cl I As cs vs → bo K cl I As (c :: cs) (v :: vs)
end
section
variable {K : PySem.W.Frag} {cl : String → Option Addr} {I I' : Hp} {As As' : List Addr}
mutual
theorem cM.mono (s : Same I I') (x : Ext As As') : ∀ {c : aw} {v : V}, cM K cl I As c v → cM K cl I' As' c v
 | _, _, .fix r => .fix (r.mono s)
 | _, _, .at h => .at (x _ _ h)
 | _, _, .tup h r => .tup (SqT.mono s h) (bo.mono s x r)
theorem bo.mono (s : Same I I') (x : Ext As As') : ∀ {c : List aw} {v : List V}, bo K cl I As c v → bo K cl I' As' c v
 | _, _, .nil => .nil
 | _, _, .cons r t => .cons (cM.mono s x r) (bo.mono s x t)
end
theorem cM.fix_inv {d : D} {v : V} (h : cM K cl I As (.fix d) v) : Rep K cl I d v := by cases h with | fix r => exact r
theorem cM.at_inv {j : Nat} {v : V} (h : cM K cl I As (.at j) v) : ∃ a, v = .ref a ∧ As[j]? = some a := by cases h with | «at» r => exact ⟨_, rfl, r⟩
theorem cM.tup_inv {cs : List aw} {v : V} (h : cM K cl I As (.tup cs) v) : ∃ a vs, v = .ref a ∧ SqT K I a vs ∧ bo K cl I As cs vs := by cases h with | tup r t => exact ⟨_, _, rfl, r, t⟩
theorem bo.length : ∀ {cs : List aw} {vs : List V}, bo K cl I As cs vs → cs.length = vs.length
 | _, _, .nil => rfl
 | _, _, .cons _ t => by simp [bo.length t]
theorem bo.get : ∀ {ds : List aw} {vs : List V} {i : Nat} {d : aw}, bo K cl I As ds vs → ds[i]? = some d → ∃ v, vs[i]? = some v ∧ cM K cl I As d v
 | _, _, i, _, .nil, e => by simp at e
 | _, _, 0, _, .cons r _, e => by simp at e; subst e; exact ⟨_, rfl, r⟩
 | _, _, i + 1, d, .cons _ t, e => by
  obtain ⟨v, h1, h2⟩ := bo.get (i := i) (d := d) t (by simpa using e)
  exact ⟨v, by simpa using h1, h2⟩
theorem bo.append : ∀ {ds es : List aw} {vs us : List V}, bo K cl I As ds vs → bo K cl I As es us → bo K cl I As (ds ++ es) (vs ++ us)
 | _, _, _, _, .nil, s => s
 | _, _, _, _, .cons r t, s => .cons r (bo.append t s)
theorem bo.set : ∀ {ds : List aw} {vs : List V} (i : Nat) {d : aw} {v : V}, cM K cl I As d v → bo K cl I As ds vs → bo K cl I As (ds.set i d) (vs.set i v)
 | _, _, i, _, _, _, .nil => by cases i <;> exact .nil
 | _, _, 0, _, _, r, .cons _ t => .cons r t
 | _, _, i + 1, _, _, r, .cons q t => .cons q (bo.set i r t)
theorem bo.fixes : ∀ {cs : List aw} {vs : List V} {ds : List D}, bo K cl I As cs vs → fixes cs = some ds → aI K cl I ds vs
 | _, _, ds, .nil, e => by cases e; exact .nil
 | c :: cs, _, ds, .cons r t, e => by
  unfold Q.fixes at e
  obtain ⟨d, e1, e⟩ := Option.bind_eq_some_iff.mp e
  obtain ⟨es, e2, e⟩ := Option.map_eq_some_iff.mp e
  cases e
  cases c with
  | fix d' => cases e1; exact .cons r.fix_inv (bo.fixes t e2)
  | «at» j => cases e1
  | tup cs => cases e1
theorem bo.ofReps : ∀ {ds : List D} {vs : List V}, aI K cl I ds vs → bo K cl I As (ds.map .fix) vs
 | _, _, .nil => .nil
 | _, _, .cons r t => .cons (.fix r) (bo.ofReps t)
theorem tO (ds : List D) : fixes (ds.map .fix) = some ds := by
 induction ds with
 | nil => rfl
 | cons d ds ih => simp [fixes, aw.fix?, ih]
inductive c6 (K : PySem.W.Frag) (cl : String → Option Addr) (I : Hp) (As : List Addr) : Cell → HO → Prop
 | lst {lk cs vs} : bo K cl I As cs vs → c6 K cl I As (.lst lk cs) (.lst vs)
 | obj {c C dx ks cs vs} : cl c = some C → bo K cl I As cs vs → ks.length = cs.length → c6 K cl I As (.obj c ks cs) (.ins C dx (ks.zip vs))
theorem c6.mono (s : Same I I') (x : Ext As As') {c : Cell} {o : HO} (h : c6 K cl I As c o) : c6 K cl I' As' c o := by
 cases h with
 | lst r => exact .lst (r.mono s x)
 | obj h r e => exact .obj h (r.mono s x) e
theorem c6.notTab {c : Cell} {o : HO} (h : c6 K cl I As c o) {ps : Array Value} (e : o = .tbl ps) : False := by
 subst e; cases h
theorem c6.flat {c : Cell} {o : HO} {d : D} (h : c6 K cl I As c o) (e : c.flat = some d) : bu K cl I d o := by
 cases h with
 | lst r =>
  unfold Cell.flat at e
  obtain ⟨ds, e1, e2⟩ := Option.map_eq_some_iff.mp e
  cases e2
  exact .lst (r.fixes e1)
 | obj h r el =>
  unfold Cell.flat at e
  obtain ⟨ds, e1, e2⟩ := Option.map_eq_some_iff.mp e
  cases e2
  have r2 := r.fixes e1
  exact .obj h r2 (by rw [el, r.length, r2.length])
theorem c6.lst_inv {lk : Bool} {cs : List aw} {o : HO} (h : c6 K cl I As (.lst lk cs) o) : ∃ vs, o = .lst vs ∧ bo K cl I As cs vs := by cases h with | lst r => exact ⟨_, rfl, r⟩
theorem c6.ob_inv {c : String} {ks : List Str} {cs : List aw} {o : HO} (h : c6 K cl I As (.obj c ks cs) o) : ∃ C dx vs, o = .ins C dx (ks.zip vs) ∧ cl c = some C ∧ bo K cl I As cs vs ∧ ks.length = cs.length := by
 cases h with | obj h r e => exact ⟨_, _, _, rfl, h, r, e⟩
end
structure CG where
 I0 : Hp
 H0 : Hp
structure CR (K : PySem.W.Frag) (cl : String → Option Addr) (g : CG) (M : Mem) (As : List Addr) (env : aD) (σ : St) (I H : Hp) : Prop where
 sub : Same I H
 i0 : Same g.I0 I
 h0 : ∀ a o, g.H0 a = some o → ¬ a9 cl a → H a = some o
 hi : ∀ a o, g.H0 a = some o → g.I0 a = none → I a = none
 len : env.length = σ.length
 at_ : ∀ (i : Nat) (c : aw), env[i]? = some (some c) → ∃ v, σ[i]? = some (some v) ∧ cM K cl I As c v
 ml : As.length = M.length
 nd : As.Nodup
 al : ∀ a ∈ As, ∃ o, H a = some o
 me : ∀ (j : Nat) (c : Cell) (a : Addr), M[j]? = some c → As[j]? = some a → c ≠ .dead → I a = none ∧ ∃ o, H a = some o ∧ c6 K cl I As c o
 mu : ∀ (j : Nat) (c : Cell) (a : Addr), M[j]? = some c → As[j]? = some a → c.mut = true → g.H0 a = none
 tb : ∀ a, a9 cl a → I a = none ∧ GxR.TabG H a ∧ ∃ o, g.H0 a = some o
theorem Cell.mut_alive {c : Cell} (h : c.mut = true) : c ≠ .dead := by intro e; subst e; cases h
section
variable {K : PySem.W.Frag} {cl : String → Option Addr} {g : CG} {M : Mem} {As : List Addr} {env : aD} {σ : St} {I I2 H H2 : Hp}
theorem CR.addr (R : CR K cl g M As env σ I H) {j : Nat} {c : Cell} (h : M[j]? = some c) : ∃ a, As[j]? = some a := by
 have := (List.getElem?_eq_some_iff.mp h).1
 exact ⟨As[j]'(by rw [R.ml]; exact this), List.getElem?_eq_getElem _⟩
theorem CR.cell (R : CR K cl g M As env σ I H) {j : Nat} {c : Cell} {a : Addr} (h : M[j]? = some c) (ha : As[j]? = some a) (hd : c ≠ .dead) : ∃ o, H a = some o ∧ c6 K cl I As c o ∧ I a = none :=
 let ⟨h1, o, h2, h3⟩ := R.me j c a h ha hd
 ⟨o, h2, h3, h1⟩
theorem CR.inj (R : CR K cl g M As env σ I H) {i j : Nat} {a : Addr} (h : As[i]? = some a) (k : As[j]? = some a) : i = j := by
 obtain ⟨h1, e1⟩ := List.getElem?_eq_some_iff.mp h
 obtain ⟨h2, e2⟩ := List.getElem?_eq_some_iff.mp k
 exact (List.getElem_inj R.nd).mp (e1.trans e2.symm)
theorem CR.fresh0 (R : CR K cl g M As env σ I H) {p : Addr} (hp : H p = none) : g.H0 p = none := by
 cases e : g.H0 p with
 | none => rfl
 | some o =>
  by_cases ht : a9 cl p
  ·obtain ⟨_, ⟨ps, h, _⟩, _⟩ := R.tb p ht
   rw [hp] at h; cases h
  ·rw [R.h0 p o e ht] at hp; cases hp
theorem CR.step (R : CR K cl g M As env σ I H) (sub : Same I2 H2) (i : Same I I2) (h : ∀ a o, H a = some o → ¬ a9 cl a → H2 a = some o) (hi : ∀ a o, H a = some o → I a = none → I2 a = none) (tb : ∀ a, a9 cl a → GxR.TabG H2 a) : CR K cl g M As env σ I2 H2 where
 sub := sub
 i0 := R.i0.trans i
 h0 := fun a o e n => h a o (R.h0 a o e n) n
 hi := fun a o e e0 => by
  by_cases ht : a9 cl a
  ·obtain ⟨h1, ⟨ps, h2, _⟩, _⟩ := R.tb a ht
   exact hi a _ h2 h1
  ·exact hi a o (R.h0 a o e ht) (R.hi a o e e0)
 len := R.len
 at_ := fun k c e => by obtain ⟨v, h1, h2⟩ := R.at_ k c e; exact ⟨v, h1, h2.mono i (Ext.refl _)⟩
 ml := R.ml
 nd := R.nd
 al := fun a ha => by
  by_cases ht : a9 cl a
  ·obtain ⟨ps, h2, _⟩ := tb a ht; exact ⟨_, h2⟩
  ·obtain ⟨o, h1⟩ := R.al a ha; exact ⟨o, h a o h1 ht⟩
 me := fun j c a e1 e2 e3 => by
  obtain ⟨h1, o, h2, h3⟩ := R.me j c a e1 e2 e3
  have ht : ¬ a9 cl a := fun ht => by
   obtain ⟨_, ⟨ps, h4, _⟩, _⟩ := R.tb a ht
   rw [h2] at h4
   exact h3.notTab (Option.some.inj h4)
  exact ⟨hi a o h2 h1, o, h a o h2 ht, h3.mono i (Ext.refl _)⟩
 mu := R.mu
 tb := fun a ht => by
  obtain ⟨h1, ⟨ps, h2, _⟩, h3⟩ := R.tb a ht
  exact ⟨hi a _ h2 h1, tb a ht, h3⟩
theorem CR.grow (R : CR K cl g M As env σ I H) (s : Same H H2) : CR K cl g M As env σ I H2 :=
 R.step (R.sub.trans s) (Same.refl _) (fun a o h _ => s a o h) (fun _ _ _ h => h) fun a ht => let ⟨_, ⟨ps, h2, h3⟩, _⟩ := R.tb a ht; ⟨ps, s _ _ h2, h3⟩
theorem CR.newAt (R : CR K cl g M As env σ I H) {p : Addr} {o : HO} {c : Cell} (hp : H p = some o) (hA : p ∉ As) (hI : I p = none) (h0 : g.H0 p = none) (ok : c6 K cl I As c o) : CR K cl g (M ++ [c]) (As ++ [p]) env σ I H := by
 have x := Ext.app As p
 have low : ∀ (j : Nat) (d : Cell) (a : Addr), (M ++ [c])[j]? = some d → (As ++ [p])[j]? = some a → (M[j]? = some d ∧ As[j]? = some a) ∨ (d = c ∧ a = p) := fun j d a e1 e2 => by
  by_cases hj : j < M.length
  ·rw [List.getElem?_append_left hj] at e1
   rw [List.getElem?_append_left (by rw [R.ml]; exact hj)] at e2
   exact .inl ⟨e1, e2⟩
  ·have hl := (List.getElem?_eq_some_iff.mp e1).1
   rw [List.length_append, List.length_singleton] at hl
   have hj2 : j = M.length := by omega
   subst hj2
   rw [List.getElem?_append_right (Nat.le_refl _), Nat.sub_self] at e1
   rw [← R.ml, List.getElem?_append_right (Nat.le_refl _), Nat.sub_self] at e2
   cases e1; cases e2
   exact .inr ⟨rfl, rfl⟩
 refine ⟨R.sub, R.i0, R.h0, R.hi, R.len, fun i d e => ?_, by simp [R.ml], ?_, fun a ha => ?_, fun j d a e1 e2 e3 => ?_, fun j d a e1 e2 e3 => ?_, R.tb⟩
 ·obtain ⟨v, h1, h2⟩ := R.at_ i d e; exact ⟨v, h1, h2.mono (Same.refl _) x⟩
 ·rw [List.nodup_append]
  exact ⟨R.nd, by simp, fun a ha b hb e => by simp at hb; subst hb; subst e; exact hA ha⟩
 ·rcases List.mem_append.mp ha with ha | ha
  ·exact R.al a ha
  ·simp at ha; subst ha; exact ⟨o, hp⟩
 ·rcases low j d a e1 e2 with ⟨f1, f2⟩ | ⟨rfl, rfl⟩
  ·obtain ⟨h1, u, h2, h3⟩ := R.me j d a f1 f2 e3
   exact ⟨h1, u, h2, h3.mono (Same.refl _) x⟩
  ·exact ⟨hI, o, hp, ok.mono (Same.refl _) x⟩
 ·rcases low j d a e1 e2 with ⟨f1, f2⟩ | ⟨rfl, rfl⟩
  ·exact R.mu j d a f1 f2 e3
  ·exact h0
theorem CR.notIn (R : CR K cl g M As env σ I H) {p : Addr} (hp : H p = none) : p ∉ As := fun h => by
 obtain ⟨o, h1⟩ := R.al p h
 rw [hp] at h1; cases h1
theorem CR.notI (R : CR K cl g M As env σ I H) {p : Addr} (hp : H p = none) : I p = none := by
 cases e : I p with
 | none => rfl
 | some u => have := R.sub p u e; rw [hp] at this; cases this
theorem CR.new (R : CR K cl g M As env σ I H) {p : Addr} {o : HO} {c : Cell} (hp : H p = none) (ok : c6 K cl I As c o) : CR K cl g (M ++ [c]) (As ++ [p]) env σ I (upd H p o) :=
 (R.grow (Same.new hp)).newAt upd_same (R.notIn hp) (R.notI hp) (R.fresh0 hp) ok
theorem CR.newIx (R : CR K cl g M As env σ I H) (p : Addr) : (As ++ [p])[M.length]? = some p := by
 rw [← R.ml, List.getElem?_append_right (Nat.le_refl _), Nat.sub_self]; rfl
theorem CR.put (R : CR K cl g M As env σ I H) {j : Nat} {c c' : Cell} {a : Addr} {o' : HO} (hc : M[j]? = some c) (ha : As[j]? = some a) (hm : c.mut = true) (ok : c6 K cl I As c' o') : CR K cl g (M.set j c') As env σ I (upd H a o') := by
 obtain ⟨hI, o, hH, ok0⟩ := R.me j c a hc ha (Cell.mut_alive hm)
 have h0 := R.mu j c a hc ha hm
 have nt : ¬ a9 cl a := fun ht => by
  obtain ⟨_, ⟨ps, h4, _⟩, _⟩ := R.tb a ht
  rw [hH] at h4
  exact ok0.notTab (Option.some.inj h4)
 refine ⟨fun b u e => ?_, R.i0, fun b u e n => ?_, R.hi, R.len, R.at_, by rw [List.length_set]; exact R.ml, R.nd, fun b hb => ?_, fun i d b e1 e2 e3 => ?_, fun i d b e1 e2 e3 => ?_, fun b ht => ?_⟩
 ·rw [upd_ne (fun z => by subst z; rw [hI] at e; cases e)]; exact R.sub b u e
 ·rw [upd_ne (fun z => by subst z; rw [h0] at e; cases e)]; exact R.h0 b u e n
 ·by_cases z : b = a
  ·subst z; exact ⟨o', upd_same⟩
  ·rw [upd_ne z]; exact R.al b hb
 ·rcases bW e1 with ⟨rfl, _, rfl⟩ | ⟨n, e1⟩
  ·rw [ha] at e2; cases e2
   exact ⟨hI, o', upd_same, ok⟩
  ·obtain ⟨h1, u, h2, h3⟩ := R.me i d b e1 e2 e3
   have z : b ≠ a := fun z => by subst z; exact n (R.inj e2 ha)
   exact ⟨h1, u, by rw [upd_ne z]; exact h2, h3⟩
 ·rcases bW e1 with ⟨rfl, _, rfl⟩ | ⟨n, e1⟩
  ·rw [ha] at e2; cases e2; exact h0
  ·exact R.mu i d b e1 e2 e3
 ·obtain ⟨h1, ⟨ps, h2, h3⟩, h4⟩ := R.tb b ht
  have z : b ≠ a := fun z => nt (z ▸ ht)
  exact ⟨h1, ⟨ps, by rw [upd_ne z]; exact h2, h3⟩, h4⟩
theorem CR.freeze (R : CR K cl g M As env σ I H) {j : Nat} {c : Cell} {a : Addr} {d : D} (hc : M[j]? = some c) (ha : As[j]? = some a) (hm : c.mut = true) (hf : c.flat = some d) :
  ∃ I2, CR K cl g (M.set j .dead) As env σ I2 H ∧ Same I I2 ∧ Rep K cl I2 d (.ref a) := by
 obtain ⟨hI, o, hH, ok0⟩ := R.me j c a hc ha (Cell.mut_alive hm)
 have h0 := R.mu j c a hc ha hm
 have nt : ¬ a9 cl a := fun ht => by
  obtain ⟨_, ⟨ps, h4, _⟩, _⟩ := R.tb a ht
  rw [hH] at h4
  exact ok0.notTab (Option.some.inj h4)
 have s : Same I (upd I a o) := Same.new hI
 refine ⟨upd I a o, ⟨fun b u e => ?_, R.i0.trans s, R.h0, fun b u e1 e2 => ?_, R.len, fun i d e => ?_, by rw [List.length_set]; exact R.ml, R.nd, R.al, fun i d b e1 e2 e3 => ?_, fun i d b e1 e2 e3 => ?_, fun b ht => ?_⟩, s, .obj upd_same ((ok0.flat hf).mono s)⟩
 ·by_cases z : b = a
  ·subst z; rw [upd_same] at e; cases e; exact hH
  ·rw [upd_ne z] at e; exact R.sub b u e
 ·rw [upd_ne (fun z => by subst z; rw [h0] at e1; cases e1)]; exact R.hi b u e1 e2
 ·obtain ⟨v, h1, h2⟩ := R.at_ i d e; exact ⟨v, h1, h2.mono s (Ext.refl _)⟩
 ·rcases bW e1 with ⟨rfl, _, rfl⟩ | ⟨n, e1⟩
  ·exact absurd rfl e3
  ·obtain ⟨h1, u, h2, h3⟩ := R.me i d b e1 e2 e3
   exact ⟨by rw [upd_ne (fun z => by subst z; exact n (R.inj e2 ha))]; exact h1, u, h2, h3.mono s (Ext.refl _)⟩
 ·rcases bW e1 with ⟨rfl, _, rfl⟩ | ⟨n, e1⟩
  ·cases e3
  ·exact R.mu i d b e1 e2 e3
 ·obtain ⟨h1, h2, h3⟩ := R.tb b ht
  have z : b ≠ a := fun z => nt (z ▸ ht)
  exact ⟨by rw [upd_ne z]; exact h1, h2, h3⟩
theorem CR.setSlot (R : CR K cl g M As env σ I H) {i : Nat} {c : aw} {v : V} (h : i < env.length) (r : cM K cl I As c v) : CR K cl g M As (env.set i (some c)) (σ.set i (some v)) I H :=
 { R with
  len := by rw [List.length_set, List.length_set]; exact R.len
  at_ := fun j d e => by
   rcases bW e with ⟨rfl, _, e⟩ | ⟨n, e⟩
   ·cases e; exact ⟨v, List.getElem?_set_self (by rw [← R.len]; exact h), r⟩
   ·rw [List.getElem?_set_ne (Ne.symm n)]; exact R.at_ j d e }
theorem CR.unset (R : CR K cl g M As env σ I H) (i : Nat) (x : Option V) : CR K cl g M As (env.set i none) (σ.set i x) I H :=
 { R with
  len := by rw [List.length_set, List.length_set]; exact R.len
  at_ := fun j d e => by
   rcases bW e with ⟨rfl, _, e⟩ | ⟨n, e⟩
   ·cases e
   ·rw [List.getElem?_set_ne (Ne.symm n)]; exact R.at_ j d e }
theorem CR.lock (R : CR K cl g M As env σ I H) {j : Nat} {lk : Bool} {cs : List aw} {a : Addr} {o : HO} (hc : M[j]? = some (.lst lk cs)) (ha : As[j]? = some a) (ho : H a = some o) : CR K cl ⟨g.I0, upd g.H0 a o⟩ (M.set j (.lst true cs)) As env σ I H := by
 obtain ⟨hI, u, hH, ok0⟩ := R.me j _ a hc ha (by intro z; cases z)
 rw [ho] at hH; cases hH
 refine ⟨R.sub, R.i0, fun b u e n => ?_, fun b u e1 e2 => ?_, R.len, R.at_, by rw [List.length_set]; exact R.ml, R.nd, R.al, fun i d b e1 e2 e3 => ?_, fun i d b e1 e2 e3 => ?_, fun b ht => ?_⟩
 ·change upd g.H0 a o b = some u at e
  by_cases z : b = a
  ·subst z; rw [upd_same] at e; cases e; exact ho
  ·rw [upd_ne z] at e; exact R.h0 b u e n
 ·change upd g.H0 a o b = some u at e1
  by_cases z : b = a
  ·subst z; exact hI
  ·rw [upd_ne z] at e1; exact R.hi b u e1 e2
 ·rcases bW e1 with ⟨rfl, _, rfl⟩ | ⟨n, e1⟩
  ·rw [ha] at e2; cases e2
   obtain ⟨vs, rfl, r⟩ := ok0.lst_inv
   exact ⟨hI, _, ho, .lst r⟩
  ·exact R.me i d b e1 e2 e3
 ·rcases bW e1 with ⟨rfl, _, rfl⟩ | ⟨n, e1⟩
  ·cases e3
  ·show upd g.H0 a o b = none
   rw [upd_ne (fun z => by subst z; exact n (R.inj e2 ha))]
   exact R.mu i d b e1 e2 e3
 ·obtain ⟨h1, h2, h3⟩ := R.tb b ht
  refine ⟨h1, h2, ?_⟩
  by_cases z : b = a
  ·subst z; exact ⟨o, upd_same⟩
  ·obtain ⟨u, h3⟩ := h3; exact ⟨u, by show upd g.H0 a o b = _; rw [upd_ne z]; exact h3⟩
theorem CR.unlock {lk : Bool} {cs : List aw} {a : Addr} {o : HO} {j : Nat} (R : CR K cl ⟨g.I0, upd g.H0 a o⟩ M As env σ I H) (hc : M[j]? = some (.lst true cs)) (ha : As[j]? = some a) (hl : lk = false → g.H0 a = none) (hg : ∀ u, g.H0 a = some u → u = o)
  (ht0 : ∀ b, a9 cl b → ∃ o, g.H0 b = some o) : CR K cl g (M.set j (.lst lk cs)) As env σ I H := by
 obtain ⟨hI, u, hH, ok0⟩ := R.me j _ a hc ha (by intro z; cases z)
 have up : ∀ b u, g.H0 b = some u → (upd g.H0 a o) b = some u := fun b u e => by
  by_cases z : b = a
  ·subst z; rw [upd_same, hg u e]
  ·rw [upd_ne z]; exact e
 refine ⟨R.sub, R.i0, fun b u e n => R.h0 b u (up b u e) n, fun b u e1 e2 => R.hi b u (up b u e1) e2, R.len, R.at_, by rw [List.length_set]; exact R.ml, R.nd, R.al, fun i d b e1 e2 e3 => ?_, fun i d b e1 e2 e3 => ?_, fun b ht => ?_⟩
 ·rcases bW e1 with ⟨rfl, _, rfl⟩ | ⟨n, e1⟩
  ·rw [ha] at e2; cases e2
   obtain ⟨vs, rfl, r⟩ := ok0.lst_inv
   exact ⟨hI, _, hH, .lst r⟩
  ·exact R.me i d b e1 e2 e3
 ·rcases bW e1 with ⟨rfl, _, rfl⟩ | ⟨n, e1⟩
  ·rw [ha] at e2; cases e2
   exact hl (by simpa [Cell.mut] using e3)
  ·have h := R.mu i d b e1 e2 e3
   change upd g.H0 a o b = none at h
   rw [upd_ne (fun z => by subst z; exact n (R.inj e2 ha))] at h
   exact h
 ·obtain ⟨h1, h2, _⟩ := R.tb b ht
  exact ⟨h1, h2, ht0 b ht⟩
def rG (M : Mem) : Option aw → Sl
 | some (.fix d) => .imm d
 | some (.at j) => match (M[j]?).bind Cell.flat with
  | some d => .bor d
  | none => .un
 | _ => .un
def eb (M : Mem) (env : aD) : En := env.map (rG M)
theorem CR.old (R : CR K cl g M As env σ I H) : SR K cl ⟨I, H, [], []⟩ (eb M env) σ I H := by
 refine ⟨R.sub, Same.refl _, fun a o h _ _ => h, fun a o _ h => h, fun a ha => (nomatch ha), by unfold eb; rw [List.length_map]; exact R.len, fun i s h => ?_, fun i j s s' a _ h1 _ m1 _ => ?_, fun a o h => (nomatch h), fun a o h => (nomatch h), fun a ht => let ⟨t1, t2, _⟩ := R.tb a ht; ⟨t1, t2, let ⟨ps, h, _⟩ := t2; ⟨_, h⟩⟩⟩
 ·unfold eb at h
  rw [List.getElem?_map] at h
  obtain ⟨oc, e1, e2⟩ := Option.map_eq_some_iff.mp h
  have hl : i < σ.length := by rw [← R.len]; exact (List.getElem?_eq_some_iff.mp e1).1
  cases oc with
  | none => subst e2; exact ⟨_, List.getElem?_eq_getElem hl, trivial⟩
  | some c =>
   obtain ⟨v, h1, h2⟩ := R.at_ i c e1
   refine ⟨_, h1, ?_⟩
   subst e2
   cases c with
   | fix d => exact ⟨v, rfl, h2.fix_inv⟩
   | «at» j =>
    unfold rG
    dsimp only
    split
    ·rename_i d hd
     obtain ⟨c, q1, q2⟩ := Option.bind_eq_some_iff.mp hd
     obtain ⟨a, rfl, ha⟩ := h2.at_inv
     obtain ⟨_, o, q3, q4⟩ := R.me j c a q1 ha (by intro z; subst z; cases q2)
     exact ⟨a, rfl, o, q3, q4.flat q2⟩
    ·trivial
   | tup cs => trivial
 ·unfold eb at h1
  rw [List.getElem?_map] at h1
  obtain ⟨oc, e1, e2⟩ := Option.map_eq_some_iff.mp h1
  subst e2
  unfold rG at m1
  split at m1
  ·cases m1
  ·split at m1 <;> cases m1
  ·cases m1
theorem CR.back (R : CR K cl g M As env σ I H) {e2 : En} {σ2 : St} (R2 : SR K cl ⟨I, H, [], []⟩ e2 σ2 I2 H2) : CR K cl g M As env σ I2 H2 :=
 R.step R2.sub R2.i0 (fun a o h n => R2.h0 a o h (fun z => nomatch z) n) (fun a o h h' => R2.hi a o h h') fun a ht => (R2.tb a ht).2.1
def rdC (M : Mem) : aw → Option D
 | .fix d => some d
 | .at j => (M[j]?).bind Cell.flat
 | .tup _ => none
end
theorem CR.rb {Z : Zc} {g : CG} {M : Mem} {As : List Addr} {env : aD} {σ : St} {I H : Hp} (R : CR Z.K Z.cl g M As env σ I H) {c : aw} {v : V} {d : D} (r : cM Z.K Z.cl I As c v) (h : rdC M c = some d) : Rb Z I H d v := by
 cases c with
 | fix d' => cases h; exact .inl r.fix_inv
 | «at» j =>
  obtain ⟨c, q1, q2⟩ := Option.bind_eq_some_iff.mp h
  obtain ⟨a, rfl, ha⟩ := r.at_inv
  obtain ⟨_, o, q3, q4⟩ := R.me j c a q1 ha (by intro z; subst z; cases q2)
  exact .inr ⟨a, rfl, o, q3, q4.flat q2⟩
 | tup cs => cases h
end Q
namespace Q
open PySem L2
abbrev MEC := Mem → aD → Option (aw × Mem)
abbrev MTC := Mem → aD → Option (Bool × Mem)
abbrev MAC := Mem → aD → Option (List aw × Mem)
def SEC (Z : Zc) (t : TE) (m : MEC) : Prop := ∀ (g : CG) (M : Mem) (As : List Addr) (env : aD) (σ : St) (I H : Hp) (Q : VK) (c : aw) (M' : Mem), CR Z.K Z.cl g M As env σ I H → m M env = some (c, M') →
 (∀ v As' I' H', CR Z.K Z.cl g M' As' env σ I' H' → Same I I' → Ext As As' → cM Z.K Z.cl I' As' c v → Q v H') → t σ H Q
def STC (Z : Zc) (t : TT) (m : MTC) : Prop := ∀ (g : CG) (M : Mem) (As : List Addr) (env : aD) (σ : St) (I H : Hp) (Q : Bool → Hp → Prop) (c : Bool) (M' : Mem), CR Z.K Z.cl g M As env σ I H → m M env = some (c, M') →
 (∀ As' I' H', CR Z.K Z.cl g M' As' env σ I' H' → Same I I' → Ext As As' → Q c H') → t σ H Q
def SAC (Z : Zc) (t : TA) (m : MAC) : Prop := ∀ (g : CG) (M : Mem) (As : List Addr) (env : aD) (σ : St) (I H : Hp) (Q : List V → Hp → Prop) (cs : List aw) (M' : Mem), CR Z.K Z.cl g M As env σ I H → m M env = some (cs, M') →
 (∀ vs As' I' H', CR Z.K Z.cl g M' As' env σ I' H' → Same I I' → Ext As As' → bo Z.K Z.cl I' As' cs vs → Q vs H') → t σ H Q
def CEV (Z : Zc) (e : Expr) (m : MEC) : Prop := ∃ t, (∀ X, InF Z X → PE X e t) ∧ SEC Z t m
def CTV (Z : Zc) (e : Expr) (m : MTC) : Prop := ∃ t, (∀ X, InF Z X → PT X e t) ∧ STC Z t m
def CWV (Z : Zc) (e : Expr) (m : MTC) : Prop := ∃ t, (∀ X, InF Z X → PW X e t) ∧ STC Z t m
def CAV (Z : Zc) (es : List Expr) (m : MAC) : Prop := ∃ t, (∀ X, InF Z X → PA X es t) ∧ SAC Z t m
section
variable {Z : Zc}
def bB (m : ME) : MEC := fun M env => (m (eb M env)).map fun p => (.fix p.1, M)
theorem bX {e : Expr} {m : ME} (h : EV Z e m) : CEV Z e (bB m) := by
 obtain ⟨t, h1, h2⟩ := h
 refine ⟨t, h1, fun g M As env σ I H Q c M' R hm k => ?_⟩
 unfold bB at hm
 obtain ⟨⟨d, en⟩, e1, hm⟩ := Option.map_eq_some_iff.mp hm
 cases hm
 exact h2 _ _ σ I H Q d en R.old e1 fun v I' H' R' s rv => k v As I' H' (R.back R') s (Ext.refl _) (.fix rv)
def cellOf : D → Option Cell
 | .lst ds => some (.lst false (ds.map .fix))
 | .obj c ks ds => some (.obj c ks (ds.map .fix))
 | _ => none
theorem je {K : PySem.W.Frag} {cl : String → Option Addr} {I : Hp} {As : List Addr} {d : D} {c : Cell} {o : HO} (h : cellOf d = some c) (r : bu K cl I d o) : c6 K cl I As c o := by
 unfold cellOf at h
 split at h
 ·cases h; obtain ⟨vs, rfl, q⟩ := r.lst_inv; exact .lst (.ofReps q)
 ·cases h; obtain ⟨C, dx, vs, rfl, hc, q, hl⟩ := r.ob_inv; exact .obj hc (.ofReps q) (by simpa using hl)
 ·cases h
def mn (m : ME) : MEC := fun M env => (m (eb M env)).bind fun p => (cellOf p.1).map fun c => (.at M.length, M ++ [c])
theorem CR.made {K : PySem.W.Frag} {cl : String → Option Addr} {g : CG} {M : Mem} {As : List Addr} {env : aD} {σ σ2 : St} {I H I2 H2 : Hp} {e2 : En} {p : Addr} {o : HO} {d : D} {c : Cell} (R : CR K cl g M As env σ I H) (R2 : SR K cl ⟨I, H, [], []⟩ e2 σ2 I2 H2)
  (n : New ⟨I, H, [], []⟩ e2 σ2 I2 H2 p o) (r : bu K cl I2 d o) (h : cellOf d = some c) : CR K cl g (M ++ [c]) (As ++ [p]) env σ I2 H2 := by
 have hp : H p = none := n.h0
 exact (R.back R2).newAt n.at_ (R.notIn hp) n.i (R.fresh0 hp) (je h r)
theorem oB {e : Expr} {m : ME} (h : EF Z e m) : CEV Z e (mn m) := by
 obtain ⟨t, h1, h2⟩ := h
 refine ⟨t, h1, fun g M As env σ I H Q c M' R hm k => ?_⟩
 unfold mn at hm
 obtain ⟨⟨d, en⟩, e1, hm⟩ := Option.bind_eq_some_iff.mp hm
 obtain ⟨cc, e2, hm⟩ := Option.map_eq_some_iff.mp hm
 cases hm
 exact h2 _ _ σ I H Q d en R.old e1 fun p o I' H' R' s n r => k _ (As ++ [p]) I' H' (R.made R' n r e2) s (Ext.app _ _) (.at (R.newIx p))
def gv (m : MT) : MTC := fun M env => (m (eb M env)).map fun p => (p.1, M)
theorem jt {e : Expr} {m : MT} (h : TV Z e m) : CTV Z e (gv m) := by
 obtain ⟨t, h1, h2⟩ := h
 refine ⟨t, h1, fun g M As env σ I H Q c M' R hm k => ?_⟩
 unfold gv at hm
 obtain ⟨⟨d, en⟩, e1, hm⟩ := Option.map_eq_some_iff.mp hm
 cases hm
 exact h2 _ _ σ I H Q d en R.old e1 fun I' H' R' s => k As I' H' (R.back R') s (Ext.refl _)
theorem CWV.tv {e : Expr} {m : MTC} (h : CWV Z e m) : CTV Z e m := let ⟨t, h1, h2⟩ := h; ⟨t, fun X i => (h1 X i).pt, h2⟩
def de (i : Nat) : MEC := fun M env => (env[i]?).bind fun o => o.map fun c => (c, M)
theorem xA {i : Nat} {x : Str} {pos : Pos} (hN : Z.N[i]? = some x) (hv : Vis Z.sc x) (hd : (x == ("__debug__" : Str)) = false := by decide) (hcd : (x == ("__classdict__" : Str)) = false := by decide) : CEV Z (.Name x pos) (de i) := by
 refine ⟨tVar i, fun X h => pe_var (by rw [h.N]; exact hN) (fM h hv) hd hcd, fun g M As env σ I H Q c M' R hm k => ?_⟩
 unfold de at hm
 obtain ⟨o, e1, hm⟩ := Option.bind_eq_some_iff.mp hm
 obtain ⟨c', e2, hm⟩ := Option.map_eq_some_iff.mp hm
 cases hm
 subst e2
 obtain ⟨v, h1, h2⟩ := R.at_ i _ e1
 exact ⟨v, h1, k v As I H R (Same.refl _) (Ext.refl _) h2⟩
def cI : MAC := fun M _ => some ([], M)
def bD (a : MEC) (r : MAC) : MAC := fun M env => (a M env).bind fun p => (r p.2 env).map fun q => (p.1 :: q.1, q.2)
theorem dP : CAV Z [] cI := ⟨tNil, fun _ _ => pa_nil, fun g M As env σ I H Q cs M' R hm k => by cases hm; exact k [] As I H R (Same.refl _) (Ext.refl _) .nil⟩
theorem cG {e : Expr} {es : List Expr} {m : MEC} {r : MAC} (h : CEV Z e m) (hr : CAV Z es r) (hs : ∀ env, starEach (e :: es) env = (false, eval e env) :: starEach es env := by intro _; rfl) : CAV Z (e :: es) (bD m r) := by
 obtain ⟨t, h1, h2⟩ := h
 obtain ⟨u, r1, r2⟩ := hr
 refine ⟨_, fun X i => pa_cons (h1 X i) (r1 X i) (hs _), fun g M As env σ I H Q cs M' R hm k => ?_⟩
 unfold bD at hm
 obtain ⟨⟨c, M1⟩, e1, hm⟩ := Option.bind_eq_some_iff.mp hm
 obtain ⟨⟨cs', M2⟩, e2, hm⟩ := Option.map_eq_some_iff.mp hm
 cases hm
 refine h2 g M As env σ I H _ c M1 R e1 fun v As1 I1 H1 R1 s1 x1 rv => ?_
 exact r2 g M1 As1 env σ I1 H1 _ cs' _ R1 e2 fun vs As2 I2 H2 R2 s2 x2 rs => k (v :: vs) As2 I2 H2 R2 (s1.trans s2) (x1.trans x2) (.cons (rv.mono s2 x2) rs)
def mkT (cs : List aw) : aw := match fixes cs with
 | some ds => .fix (.tup ds)
 | none => .tup cs
theorem wJ {K : PySem.W.Frag} {cl : String → Option Addr} {I : Hp} {As : List Addr} {cs : List aw} {vs : List V} {a : Addr} (h : SqT K I a vs) (r : bo K cl I As cs vs) : cM K cl I As (mkT cs) (.ref a) := by
 unfold mkT
 split
 ·rename_i ds e; exact .fix (.tup h (r.fixes e))
 ·exact .tup h r
theorem CR.tup {K : PySem.W.Frag} {cl : String → Option Addr} {g : CG} {M : Mem} {As : List Addr} {env : aD} {σ : St} {I H : Hp} (R : CR K cl g M As env σ I H) {p : Addr} (vs : List V) (hp : H p = none) :
  CR K cl g M As env σ (upd I p (.tup vs)) (upd H p (.tup vs)) ∧ Same I (upd I p (.tup vs)) := by
 have s : Same I (upd I p (.tup vs)) := Same.new (R.notI hp)
 refine ⟨R.step (fun b u e => ?_) s (fun b u e _ => Same.new hp b u e) (fun b u e e0 => ?_) fun b ht => ?_, s⟩
 ·by_cases z : b = p
  ·subst z; rw [upd_same] at e ⊢; exact e
  ·rw [upd_ne z] at e ⊢; exact R.sub b u e
 ·rw [upd_ne (fun z => by subst z; rw [hp] at e; cases e)]; exact e0
 ·obtain ⟨_, ⟨ps, h2, h3⟩, _⟩ := R.tb b ht
  exact ⟨ps, Same.new hp _ _ h2, h3⟩
def sk (a : MAC) : MEC := fun M env => (a M env).bind fun p => if p.1.length ≤ 1000 then some (mkT p.1, p.2) else none
theorem xX {es : List Expr} {m : MAC} {k pos} (h : CAV Z es m) : CEV Z (.Tuple es k pos) (sk m) := by
 obtain ⟨t, h1, h2⟩ := h
 refine ⟨tTup t, fun X i => pe_tup (h1 X i), fun g M As env σ I H Q c M' R hm k => ?_⟩
 unfold sk at hm
 obtain ⟨⟨cs, M1⟩, e1, hm⟩ := Option.bind_eq_some_iff.mp hm
 dsimp only at hm
 split at hm
 ·rename_i hl
  cases hm
  refine h2 g M As env σ I H _ cs _ R e1 fun vs As1 I1 H1 R1 s1 x1 rs => ⟨by rw [← rs.length]; exact Nat.le_trans hl (by decide), fun p hp => ?_⟩
  obtain ⟨R2, s2⟩ := R1.tup vs hp
  exact k _ As1 _ _ R2 (s1.trans s2) x1 (wJ (SqT.of upd_same) (rs.mono s2 (Ext.refl _)))
 ·cases hm
def pq (a : MAC) : MEC := fun M env => (a M env).bind fun p => if p.1.length ≤ 1000 then some (.at p.2.length, p.2 ++ [.lst false p.1]) else none
theorem w8 {es : List Expr} {m : MAC} {pos} (h : CAV Z es m) : CEV Z (.List es pos) (pq m) := by
 obtain ⟨t, h1, h2⟩ := h
 refine ⟨tLst t, fun X i => pe_lst (h1 X i), fun g M As env σ I H Q c M' R hm k => ?_⟩
 unfold pq at hm
 obtain ⟨⟨cs, M1⟩, e1, hm⟩ := Option.bind_eq_some_iff.mp hm
 dsimp only at hm
 split at hm
 ·rename_i hl
  cases hm
  refine h2 g M As env σ I H _ cs _ R e1 fun vs As1 I1 H1 R1 s1 x1 rs => ⟨by rw [← rs.length]; exact Nat.le_trans hl (by decide), fun p hp => ?_⟩
  exact k _ _ _ _ (R1.new hp (.lst rs)) s1 (x1.trans (Ext.app _ _)) (.at (R1.newIx p))
 ·cases hm
def gG (f : D → D → Option D) (a b : MEC) : MEC := fun M env => (a M env).bind fun p => (b p.2 env).bind fun q => (rdC q.2 p.1).bind fun x => (rdC q.2 q.1).bind fun y => (f x y).map fun z => (.fix z, q.2)
theorem qO {r : R2} {f : D → D → Option D} {ta tb : TE} {ma mb : MEC} (hr : cx Z r f) (ha : SEC Z ta ma) (hb : SEC Z tb mb) : SEC Z (tOp r ta tb) (gG f ma mb) := by
 intro g M As env σ I H Q c M' R hm k
 unfold gG at hm
 obtain ⟨⟨ca, M1⟩, e1, hm⟩ := Option.bind_eq_some_iff.mp hm
 obtain ⟨⟨cb, M2⟩, e2, hm⟩ := Option.bind_eq_some_iff.mp hm
 obtain ⟨x, e3, hm⟩ := Option.bind_eq_some_iff.mp hm
 obtain ⟨y, e4, hm⟩ := Option.bind_eq_some_iff.mp hm
 obtain ⟨z, e5, hm⟩ := Option.map_eq_some_iff.mp hm
 cases hm
 refine ha g M As env σ I H _ ca M1 R e1 fun vx As1 I1 H1 R1 s1 x1 o1 => ?_
 refine hb g M1 As1 env σ I1 H1 _ cb _ R1 e2 fun vy As2 I2 H2 R2 s2 x2 o2 => ?_
 exact hr I2 H2 x y z vx vy Q R2.sub (R2.rb (o1.mono s2 x2) e3) (R2.rb o2 e4) e5 fun vz rz => k vz As2 I2 H2 R2 (s1.trans s2) (x1.trans x2) (.fix rz)
def jf (f : D → D → Option D) (a b : MEC) : MEC := fun M env => (a M env).bind fun p => (b p.2 env).bind fun q => (rdC q.2 p.1).bind fun x => (rdC q.2 q.1).bind fun y => (f x y).bind fun z => (cellOf z).map fun c => (.at q.2.length, q.2 ++ [c])
theorem xm {r : R2} {f : D → D → Option D} {ta tb : TE} {ma mb : MEC} (hr : jC Z r f) (ha : SEC Z ta ma) (hb : SEC Z tb mb) : SEC Z (tOp r ta tb) (jf f ma mb) := by
 intro g M As env σ I H Q c M' R hm k
 unfold jf at hm
 obtain ⟨⟨ca, M1⟩, e1, hm⟩ := Option.bind_eq_some_iff.mp hm
 obtain ⟨⟨cb, M2⟩, e2, hm⟩ := Option.bind_eq_some_iff.mp hm
 obtain ⟨x, e3, hm⟩ := Option.bind_eq_some_iff.mp hm
 obtain ⟨y, e4, hm⟩ := Option.bind_eq_some_iff.mp hm
 obtain ⟨z, e5, hm⟩ := Option.bind_eq_some_iff.mp hm
 obtain ⟨cc, e6, hm⟩ := Option.map_eq_some_iff.mp hm
 cases hm
 refine ha g M As env σ I H _ ca M1 R e1 fun vx As1 I1 H1 R1 s1 x1 o1 => ?_
 refine hb g M1 As1 env σ I1 H1 _ cb _ R1 e2 fun vy As2 I2 H2 R2 s2 x2 o2 => ?_
 exact hr I2 H2 x y z vx vy Q R2.sub (R2.rb (o1.mono s2 x2) e3) (R2.rb o2 e4) e5 fun p o hp ro => k _ _ I2 _ (R2.new hp (je e6 ro)) (s1.trans s2) ((x1.trans x2).trans (Ext.app _ _)) (.at (R2.newIx p))
theorem qN {op : Operator} {r : R2} {f : D → D → Option D} {a b : Expr} {ma mb : MEC} {pos : Pos} (ho : ∀ X, InF Z X → OpR X (binaryOp op) r) (hr : jC Z r f) (ha : CEV Z a ma) (hb : CEV Z b mb) : CEV Z (.BinOp a op b pos) (jf f ma mb) := by
 obtain ⟨ta, a1, a2⟩ := ha
 obtain ⟨tb, b1, b2⟩ := hb
 exact ⟨_, fun X h => pe_op (ho X h) (a1 X h) (b1 X h), xm hr a2 b2⟩
theorem xn {op : CmpOp} {r : R2} {f : D → D → Option D} {a b : Expr} {ma mb : MEC} {pos : Pos} (ho : ∀ X, InF Z X → OpR X (compareOp op) r) (hr : cx Z r f) (ha : CEV Z a ma) (hb : CEV Z b mb) (hm : behindInMarks op b = false) : CEV Z (.Compare a [op] [b] pos) (gG f ma mb) := by
 obtain ⟨ta, a1, a2⟩ := ha
 obtain ⟨tb, b1, b2⟩ := hb
 exact ⟨_, fun X h => pe_cmpR (ho X h) (a1 X h) (b1 X h) hm, qO hr a2 b2⟩
def jk (m : MEC) : MTC := fun M env => (m M env).bind fun p => match p.1 with
 | .fix (.bl b) => some (b, p.2)
 | _ => none
theorem u9 {m : MEC} {M M' : Mem} {env : aD} {b : Bool} (h : jk m M env = some (b, M')) : m M env = some (.fix (.bl b), M') := by
 unfold jk at h
 obtain ⟨⟨c, M1⟩, e1, h⟩ := Option.bind_eq_some_iff.mp h
 dsimp only at h
 split at h
 ·cases h; exact e1
 ·cases h
theorem nR {op : CmpOp} {r : R2} {f : D → D → Option D} {a b : Expr} {ma mb : MEC} {pos : Pos} (ho : ∀ X, InF Z X → OpR X (compareOp op) r) (hr : cx Z r f) (ha : CEV Z a ma) (hb : CEV Z b mb) (hm : behindInMarks op b = false) : CTV Z (.Compare a [op] [b] pos) (jk (gG f ma mb)) := by
 obtain ⟨ta, a1, a2⟩ := ha
 obtain ⟨tb, b1, b2⟩ := hb
 refine ⟨_, fun X h => pt_cmpR (ho X h) (a1 X h) (b1 X h) hm, fun g M As env σ I H Q c M' R hm k => ?_⟩
 refine qO hr a2 b2 g M As env σ I H _ _ M' R (u9 hm) fun v As' I' H' R' s x rv => ?_
 exact ⟨c, rv.fix_inv.bl_inv, k As' I' H' R' s x⟩
def mO (m : MEC) : MTC := fun M env => (m M env).bind fun p => (rdC p.2 p.1).bind fun d => (dR d).map fun b => (b, p.2)
theorem wW {e : Expr} {m : MEC} (h : CEV Z e m) (he : ∀ (env : Env) whole, isTrue e env whole = (do let v ← whole; standAt e.pos; holding [v] (truthy v)) := by intro _ _; rfl) : CTV Z e (mO m) := by
 obtain ⟨t, h1, h2⟩ := h
 refine ⟨fun σ H Q => t σ H fun x H1 => ∃ k, TruV Z.K x H1 k ∧ Q k H1, fun X i => ?_, fun g M As env σ I H Q c M' R hm k => ?_⟩
 ·have q := pt_truth (X := X) (h1 X i) (he _)
  rw [i.K] at q
  exact q
 ·unfold mO at hm
  obtain ⟨⟨l, M1⟩, e1, hm⟩ := Option.bind_eq_some_iff.mp hm
  obtain ⟨d, e2, hm⟩ := Option.bind_eq_some_iff.mp hm
  obtain ⟨b, e3, hm⟩ := Option.map_eq_some_iff.mp hm
  cases hm
  exact h2 g M As env σ I H _ l _ R e1 fun v As' I' H' R' s x o => ⟨_, sF R'.sub e3 (R'.rb o e2), k As' I' H' R' s x⟩
def aw.isNon : aw → Bool
 | .fix .non => true
 | _ => false
theorem cM.isNon {K : PySem.W.Frag} {cl : String → Option Addr} {I : Hp} {As : List Addr} {c : aw} {v : V} (h : cM K cl I As c v) : decide (v = .non) = c.isNon := by
 cases h with
 | fix r =>
  cases r with
  | obj _ q => cases q <;> simp [aw.isNon]
  | fz _ q => cases q <;> simp [aw.isNon]
  | _ => simp [aw.isNon]
 | «at» e => simp [aw.isNon]
 | tup q r => simp [aw.isNon]
def oi (a b : MTC) : MTC := fun M env => (a M env).bind fun p => if p.1 then b p.2 env else some (false, p.2)
def cOr (a b : MTC) : MTC := fun M env => (a M env).bind fun p => if p.1 then some (true, p.2) else b p.2 env
theorem uX {a : Expr} {m : MTC} {pos : Pos} (h : CTV Z a m) : CWV Z (.BoolOp .And [a] pos) m := let ⟨t, h1, h2⟩ := h; ⟨t, fun X i => pw_and1 (h1 X i), h2⟩
theorem xu {a : Expr} {m : MTC} {pos : Pos} (h : CTV Z a m) : CWV Z (.BoolOp .Or [a] pos) m := let ⟨t, h1, h2⟩ := h; ⟨t, fun X i => pw_or1 (h1 X i), h2⟩
theorem wK {ta tb : TT} {ma mb : MTC} (ha : STC Z ta ma) (hb : STC Z tb mb) : STC Z (tAnd ta tb) (oi ma mb) := by
 intro g M As env σ I H Q c M' R hm k
 unfold oi at hm
 obtain ⟨⟨b, M1⟩, e1, hm⟩ := Option.bind_eq_some_iff.mp hm
 refine ha g M As env σ I H _ b M1 R e1 fun As1 I1 H1 R1 s1 x1 => ?_
 cases b with
 | true => exact hb g M1 As1 env σ I1 H1 Q c M' R1 hm fun As2 I2 H2 R2 s2 x2 => k As2 I2 H2 R2 (s1.trans s2) (x1.trans x2)
 | false => cases hm; exact k As1 I1 H1 R1 s1 x1
theorem Ad {ta tb : TT} {ma mb : MTC} (ha : STC Z ta ma) (hb : STC Z tb mb) : STC Z (tOr ta tb) (cOr ma mb) := by
 intro g M As env σ I H Q c M' R hm k
 unfold cOr at hm
 obtain ⟨⟨b, M1⟩, e1, hm⟩ := Option.bind_eq_some_iff.mp hm
 refine ha g M As env σ I H _ b M1 R e1 fun As1 I1 H1 R1 s1 x1 => ?_
 cases b with
 | false => exact hb g M1 As1 env σ I1 H1 Q c M' R1 hm fun As2 I2 H2 R2 s2 x2 => k As2 I2 H2 R2 (s1.trans s2) (x1.trans x2)
 | true => cases hm; exact k As1 I1 H1 R1 s1 x1
theorem wy {a b : Expr} {r : List Expr} {ma mb : MTC} {pos : Pos} (ha : CTV Z a ma) (hb : CWV Z (.BoolOp .And (b :: r) pos) mb) : CWV Z (.BoolOp .And (a :: b :: r) pos) (oi ma mb) := by
 obtain ⟨ta, a1, a2⟩ := ha
 obtain ⟨tb, b1, b2⟩ := hb
 exact ⟨_, fun X h => pw_and (a1 X h) (b1 X h), wK a2 b2⟩
theorem zI {a b : Expr} {r : List Expr} {ma mb : MTC} {pos : Pos} (ha : CTV Z a ma) (hb : CWV Z (.BoolOp .Or (b :: r) pos) mb) : CWV Z (.BoolOp .Or (a :: b :: r) pos) (cOr ma mb) := by
 obtain ⟨ta, a1, a2⟩ := ha
 obtain ⟨tb, b1, b2⟩ := hb
 exact ⟨_, fun X h => pw_or (a1 X h) (b1 X h), Ad a2 b2⟩
def cIf (c : MTC) (a b : MEC) : MEC := fun M env => (c M env).bind fun p => if p.1 then a p.2 env else b p.2 env
theorem yX {c a b : Expr} {mc : MTC} {ma mb : MEC} {pos : Pos} (hc : CTV Z c mc) (ha : CEV Z a ma) (hb : CEV Z b mb) : CEV Z (.IfExp c a b pos) (cIf mc ma mb) := by
 obtain ⟨tc, c1, c2⟩ := hc
 obtain ⟨ta, a1, a2⟩ := ha
 obtain ⟨tb, b1, b2⟩ := hb
 refine ⟨_, fun X h => pe_ifExp (c1 X h) (a1 X h) (b1 X h), fun g M As env σ I H Q c M' R hm k => ?_⟩
 unfold cIf at hm
 obtain ⟨⟨b, M1⟩, e1, hm⟩ := Option.bind_eq_some_iff.mp hm
 refine c2 g M As env σ I H _ b M1 R e1 fun As1 I1 H1 R1 s1 x1 => ?_
 cases b with
 | true => exact a2 g M1 As1 env σ I1 H1 Q c M' R1 hm fun v As2 I2 H2 R2 s2 x2 => k v As2 I2 H2 R2 (s1.trans s2) (x1.trans x2)
 | false => exact b2 g M1 As1 env σ I1 H1 Q c M' R1 hm fun v As2 I2 H2 R2 s2 x2 => k v As2 I2 H2 R2 (s1.trans s2) (x1.trans x2)
def lT (ks : List Str) (cs : List aw) (f : Str) : Option aw := (ks.zip cs).lookup f
theorem oE {K : PySem.W.Frag} {cl : String → Option Addr} {I : Hp} {As : List Addr} {f : Str} : ∀ {ks : List Str} {xs : List aw} {vs : List V} {d : aw}, bo K cl I As xs vs → lT ks xs f = some d → ∃ v, (ks.zip vs).lookup f = some v ∧ cM K cl I As d v
 | [], xs, vs, d, r, h => by unfold lT at h; simp at h
 | q :: ks, [], [], d, .nil, h => by unfold lT at h; simp at h
 | q :: ks, e :: es, v :: vs, d, .cons r1 r2, h => by
  unfold lT at h
  rw [List.zip_cons_cons, List.lookup_cons] at h ⊢
  cases e : f == q with
  | true => rw [e] at h; cases h; exact ⟨v, rfl, r1⟩
  | false => rw [e] at h; exact oE r2 h
def rq (M : Mem) : List aw → Option (List D)
 | [] => some []
 | c :: cs => (rdC M c).bind fun d => (rq M cs).map fun ds => d :: ds
theorem CR.rbs {g : CG} {M : Mem} {As : List Addr} {env : aD} {σ : St} {I H : Hp} (R : CR Z.K Z.cl g M As env σ I H) : ∀ {cs : List aw} {vs : List V} {ds : List D}, bo Z.K Z.cl I As cs vs → rq M cs = some ds → Rbs Z I H ds vs
 | _, _, ds, .nil, e => by cases e; exact .nil
 | _, _, ds, .cons r t, e => by
  unfold rq at e
  obtain ⟨d, e1, e⟩ := Option.bind_eq_some_iff.mp e
  obtain ⟨es, e2, e⟩ := Option.map_eq_some_iff.mp e
  cases e
  exact .cons (R.rb r e1) (CR.rbs R t e2)
def jK (a : MEC) : MEC := fun M env => (a M env).bind fun p => match p.1 with
 | .at j => match p.2[j]? with
  | some (.lst _ cs) => some (.fix (.int cs.length), p.2)
  | _ => none
 | .fix d => (bT [d]).map fun z => (.fix z, p.2)
 | _ => none
theorem rh {e : Expr} {m : MEC} {p pos : Pos} (hg : GlZ Z "len") (hm : Z.mg "len" = none) (h : CEV Z e m) (he : ∀ env, starEach [e] env = (false, eval e env) :: starEach [] env := by intro _; rfl) (hpl : ∀ env, (backTo pos (starEach [] env)).any (·.1) = false := by intro _; rfl) :
  CEV Z (.Call (.Name "len" p) [e] [] pos) (jK m) := by
 obtain ⟨t, h1, h2⟩ := h
 refine ⟨tCB (si Z.K) (tCons t tNil), fun X h => pe_callB (dy h) (eL h hg) (by rw [h.mg]; exact hm) (by decide +kernel) (pa_cons (h1 X h) pa_nil (he _)) (by decide) (by decide) (he _) (hpl _), fun g M As env σ I H Q c M' R hm k => ?_⟩
 unfold jK at hm
 obtain ⟨⟨l, M1⟩, e1, hm⟩ := Option.bind_eq_some_iff.mp hm
 refine h2 g M As env σ I H _ l M1 R e1 fun v As1 I1 H1 R1 s1 x1 rv => ?_
 dsimp only at hm
 split at hm
 ·split at hm
  ·rename_i j lk cs hj
   cases hm
   obtain ⟨a, rfl, hA⟩ := rv.at_inv
   obtain ⟨o, q1, q2, _⟩ := R1.cell hj hA (by intro z; cases z)
   obtain ⟨vs, rfl, rc⟩ := q2.lst_inv
   exact .inl ⟨_, _, rfl, .inl ⟨vs, SqL.of q1, rfl⟩, by rw [← rc.length]; exact k _ As1 I1 H1 R1 s1 x1 (.fix .int)⟩
  ·cases hm
 ·obtain ⟨z, e2, hm⟩ := Option.map_eq_some_iff.mp hm
  cases hm
  exact dC I1 H1 _ z [v] Q R1.sub (.cons (.inl rv.fix_inv) .nil) e2 fun vz rz => k vz As1 I1 H1 R1 s1 x1 (.fix rz)
 ·cases hm
def oj (a : MEC) : MEC := fun M env => (a M env).bind fun p => match p.1 with
 | .fix d => some (.fix d, p.2)
 | .at j => (p.2[j]?).bind fun c => if c.mut = true then c.flat.map fun d => (.fix d, p.2.set j .dead) else none
 | .tup _ => none
theorem qV {e : Expr} {m : MEC} (h : CEV Z e m) : CEV Z e (oj m) := by
 obtain ⟨t, h1, h2⟩ := h
 refine ⟨t, h1, fun g M As env σ I H Q c M' R hm k => ?_⟩
 unfold oj at hm
 obtain ⟨⟨l, M1⟩, e1, hm⟩ := Option.bind_eq_some_iff.mp hm
 refine h2 g M As env σ I H _ l M1 R e1 fun v As1 I1 H1 R1 s1 x1 rv => ?_
 dsimp only at hm
 split at hm
 ·cases hm; exact k v As1 I1 H1 R1 s1 x1 rv
 ·obtain ⟨cc, e2, hm⟩ := Option.bind_eq_some_iff.mp hm
  split at hm
  ·rename_i hmu
   obtain ⟨d, e3, hm⟩ := Option.map_eq_some_iff.mp hm
   cases hm
   obtain ⟨a, rfl, hA⟩ := rv.at_inv
   obtain ⟨I2, R2, s2, r2⟩ := R1.freeze e2 hA hmu e3
   exact k _ As1 I2 H1 R2 (s1.trans s2) x1 (.fix r2)
  ·cases hm
 ·cases hm
end
end Q
namespace Q
open PySem L2
inductive FlC where
 | nx (M : Mem) (env : aD) | bk (M : Mem) (env : aD) | ct (M : Mem) (env : aD) | ret (c : aw) (M : Mem) (env : aD)
 | exc (c : String) (ks : List Str) (cs : List aw) (M : Mem) (env : aD)
abbrev MSC := Mem → aD → Option FlC
def mU (Z : Zc) (g : CG) (I : Hp) (As : List Addr) (W : WX) (D : Ends) : FlC → Prop
 | .nx M env => ∀ σ' As' I' H', CR Z.K Z.cl g M As' env σ' I' H' → Same I I' → Ext As As' → D.nx σ' H'
 | .bk M env => ∀ σ' As' I' H', CR Z.K Z.cl g M As' env σ' I' H' → Same I I' → Ext As As' → D.bk σ' H'
 | .ct M env => ∀ σ' As' I' H', CR Z.K Z.cl g M As' env σ' I' H' → Same I I' → Ext As As' → D.ct σ' H'
 | .ret c M env => ∀ σ' As' I' H' v, CR Z.K Z.cl g M As' env σ' I' H' → Same I I' → Ext As As' → cM Z.K Z.cl I' As' c v → D.rt v H'
 | .exc c ks cs M env => ∀ σ' As' I' H' C d vs, CR Z.K Z.cl g M As' env σ' I' H' → Same I I' → Ext As As' → Z.cl c = some C → bo Z.K Z.cl I' As' cs vs → ks.length = cs.length → H' d = some (.xd (ks.zip vs)) → W (.ref C) (some d) σ' H'
def SSC (Z : Zc) (W : WX) (t : TS) (m : MSC) : Prop := ∀ (g : CG) (M : Mem) (As : List Addr) (env : aD) (σ : St) (I H : Hp) (D : Ends) (fl : FlC), CR Z.K Z.cl g M As env σ I H → m M env = some fl → mU Z g I As W D fl → t D σ H
def CSV (Z : Zc) (st : Stmt) (m : MSC) : Prop := ∃ t : WX → TS, (∀ X W, InF Z X → Takes X W → PS X st (t W)) ∧ ∀ W, SSC Z W (t W) m
def CBV (Z : Zc) (sts : List Stmt) (m : MSC) : Prop := ∃ t : WX → TS, (∀ X W, InF Z X → Takes X W → PSs X sts (t W)) ∧ ∀ W, SSC Z W (t W) m
theorem mU.mono {Z : Zc} {g : CG} {I I' : Hp} {As As' : List Addr} {W : WX} {D : Ends} {fl : FlC} (s : Same I I') (x : Ext As As') (h : mU Z g I As W D fl) : mU Z g I' As' W D fl := by
 cases fl with
 | nx M env => exact fun σ' A2 J H' R e y => h σ' A2 J H' R (s.trans e) (x.trans y)
 | bk M env => exact fun σ' A2 J H' R e y => h σ' A2 J H' R (s.trans e) (x.trans y)
 | ct M env => exact fun σ' A2 J H' R e y => h σ' A2 J H' R (s.trans e) (x.trans y)
 | ret c M env => exact fun σ' A2 J H' v R e y => h σ' A2 J H' v R (s.trans e) (x.trans y)
 | exc c ks cs M env => exact fun σ' A2 J H' C d vs R e y => h σ' A2 J H' C d vs R (s.trans e) (x.trans y)
section
variable {Z : Zc}
def jR : MSC := fun M env => some (.nx M env)
theorem l8 : CBV Z [] jR := ⟨fun _ => tNext, fun _ _ _ _ => pss_nil, fun W g M As env σ I H D fl R hm k => by cases hm; exact k σ As I H R (Same.refl _) (Ext.refl _)⟩
def cY (a b : MSC) : MSC := fun M env => (a M env).bind fun fl => match fl with
 | .nx M e => b M e
 | fl => some fl
theorem cL {s : Stmt} {r : List Stmt} {a b : MSC} (ha : CSV Z s a) (hb : CBV Z r b) : CBV Z (s :: r) (cY a b) := by
 obtain ⟨t, h1, h2⟩ := ha
 obtain ⟨u, r1, r2⟩ := hb
 refine ⟨fun W => tSeq (t W) (u W), fun X W i w => pss_cons (h1 X W i w) (r1 X W i w), fun W g M As env σ I H D fl R hm k => ?_⟩
 unfold cY at hm
 obtain ⟨f1, e1, hm⟩ := Option.bind_eq_some_iff.mp hm
 refine h2 W g M As env σ I H _ f1 R e1 ?_
 cases f1 with
 | nx M1 e => exact fun σ' As' I' H' R' s' x' => r2 W g M1 As' e σ' I' H' D fl R' hm (k.mono s' x')
 | bk M1 e => cases hm; exact k
 | ct M1 e => cases hm; exact k
 | ret c M1 e => cases hm; exact k
 | exc c ks cs M1 e => cases hm; exact k
theorem eg {s : Stmt} {a : MSC} (ha : CSV Z s a) : CBV Z [s] a := by
 obtain ⟨t, h1, h2⟩ := ha
 exact ⟨t, fun X W i w => pss_one (h1 X W i w), h2⟩
def zE : MSC := fun M env => some (.bk M env)
def zV : MSC := fun M env => some (.ct M env)
def vQ (a : MEC) : MSC := fun M env => (a M env).map fun p => .nx p.2 env
def gK (a : MEC) : MSC := fun M env => (a M env).map fun p => .ret p.1 p.2 env
theorem gM {e : Expr} {m : MEC} {pos : Pos} (h : CEV Z e m) : CSV Z (.Return (some e) pos) (gK m) := by
 obtain ⟨t, h1, h2⟩ := h
 refine ⟨fun _ => tRet t, fun X W i _ => ps_ret (h1 X i), fun W g M As env σ I H D fl R hm k => ?_⟩
 unfold gK at hm
 obtain ⟨⟨c, M1⟩, e1, hm⟩ := Option.map_eq_some_iff.mp hm
 cases hm
 exact h2 g M As env σ I H _ c M1 R e1 fun v As1 I1 H1 R1 s1 x1 rv => k σ As1 I1 H1 v R1 s1 x1 rv
def iu (c : MTC) (a b : MSC) : MSC := fun M env => (c M env).bind fun p => if p.1 then a p.2 env else b p.2 env
theorem ju {c : Expr} {a b : List Stmt} {mc : MTC} {ma mb : MSC} {pos : Pos} (hc : CTV Z c mc) (ha : CBV Z a ma) (hb : CBV Z b mb) : CSV Z (.If c a b pos) (iu mc ma mb) := by
 obtain ⟨tc, c1, c2⟩ := hc
 obtain ⟨ta, a1, a2⟩ := ha
 obtain ⟨tb, b1, b2⟩ := hb
 refine ⟨fun W => tIfS tc (ta W) (tb W), fun X W h w => ps_if (c1 X h) (a1 X W h w) (b1 X W h w), fun W g M As env σ I H D fl R hm k => ?_⟩
 unfold iu at hm
 obtain ⟨⟨b, M1⟩, e1, hm⟩ := Option.bind_eq_some_iff.mp hm
 refine c2 g M As env σ I H _ b M1 R e1 fun As1 I1 H1 R1 s1 x1 => ?_
 cases b with
 | true => exact a2 W g M1 As1 env σ I1 H1 D fl R1 hm (k.mono s1 x1)
 | false => exact b2 W g M1 As1 env σ I1 H1 D fl R1 hm (k.mono s1 x1)
def GVC (Z : Zc) (tg : Expr) (ix : List Nat) (f : aw → aD → Option aD) : Prop := ∃ gt, (∀ X, InF Z X → PG X tg gt) ∧ ∀ (g : CG) (M : Mem) (As : List Addr) (env : aD) (σ : St) (I H : Hp) (c : aw) (v : V) (Q : St → Hp → Prop) (env' : aD), CR Z.K Z.cl g M As env σ I H → cM Z.K Z.cl I As c v → f c env = some env' →
 (∀ σ', CR Z.K Z.cl g M As env' σ' I H → (∀ vs, (∀ i ∈ ix, i ∈ vs) → wipe σ' vs = wipe σ vs) → Q σ' H) → gt v σ H Q
def gNC (i : Nat) : aw → aD → Option aD := fun c env => if i < env.length then some (env.set i (some c)) else none
theorem uP {i : Nat} {x : Str} {p : Pos} (hN : Z.N[i]? = some x) (hv : jo Z x) : GVC Z (.Name x p) [i] (gNC i) := by
 refine ⟨gName i, fun X k => pg_name k.nd (by rw [k.N]; exact hN) (gX k hv).1 (gX k hv).2, fun g M As env σ I H c v Q env' R r h k => ?_⟩
 unfold gNC at h
 split at h
 ·rename_i hi
  cases h
  exact k _ (R.setSlot hi r) fun vs hvs => iQ (hvs i (by simp))
 ·cases h
def rF (Z : Zc) (tgs : List Expr) (ix : List Nat) (f : List aw → aD → Option aD) : Prop := ∃ gt, (∀ X, InF Z X → PGs X tgs gt) ∧ ∀ (g : CG) (M : Mem) (As : List Addr) (env : aD) (σ : St) (I H : Hp) (cs : List aw) (vs : List V) (Q : St → Hp → Prop) (env' : aD), CR Z.K Z.cl g M As env σ I H → bo Z.K Z.cl I As cs vs → f cs env = some env' →
 (∀ σ', CR Z.K Z.cl g M As env' σ' I H → (∀ vs, (∀ i ∈ ix, i ∈ vs) → wipe σ' vs = wipe σ vs) → Q σ' H) → gt vs σ H Q
def pT : List aw → aD → Option aD := fun cs env => match cs with
 | [] => some env
 | _ => none
def l3 (f : aw → aD → Option aD) (r : List aw → aD → Option aD) : List aw → aD → Option aD := fun cs env => match cs with
 | c :: cs => (f c env).bind fun e => r cs e
 | _ => none
theorem uS : rF Z [] [] pT := by
 refine ⟨gNil, fun _ _ => pgs_nil, fun g M As env σ I H cs vs Q env' R r h k => ?_⟩
 unfold pT at h
 split at h
 ·cases h; cases r; exact ⟨rfl, k σ R fun _ _ => rfl⟩
 ·cases h
theorem oP {e : Expr} {es : List Expr} {i j : List Nat} {f : aw → aD → Option aD} {r : List aw → aD → Option aD} (h1 : GVC Z e i f) (h2 : rF Z es j r)
  (hs : ∀ env, (assignEach (e :: es) env).map (·.2) = assign e env :: (assignEach es env).map (·.2) := by intro _; rfl) : rF Z (e :: es) (i ++ j) (l3 f r) := by
 obtain ⟨t, a1, a2⟩ := h1
 obtain ⟨u, b1, b2⟩ := h2
 refine ⟨gCons t u, fun X k => pgs_cons (a1 X k) (b1 X k) (hs _), fun g M As env σ I H cs vs Q env' R rr h k => ?_⟩
 unfold l3 at h
 split at h
 ·rename_i d ds
  cases rr with
  | cons r1 r2 =>
   obtain ⟨en, e1, h⟩ := Option.bind_eq_some_iff.mp h
   refine ⟨_, _, rfl, a2 g M As env σ I H d _ _ en R r1 e1 fun σ1 R1 w1 => b2 g M As en σ1 I H ds _ Q env' R1 r2 h fun σ2 R2 w2 => k σ2 R2 fun ws hw => ?_⟩
   rw [w2 ws (fun q hq => hw q (List.mem_append_right _ hq)), w1 ws (fun q hq => hw q (List.mem_append_left _ hq))]
 ·cases h
def gTC (n : Nat) (r : List aw → aD → Option aD) : aw → aD → Option aD := fun c env => match c with
 | .fix (.tup xs) => if xs.length = n then r (xs.map .fix) env else none
 | .tup cs => if cs.length = n then r cs env else none
 | _ => none
theorem xZ {es : List Expr} {k n : Nat} {p : Pos} {ix : List Nat} {r : List aw → aD → Option aD} (h : rF Z es ix r)
  (hn : ∀ env, (assignEach es env).length = n := by intro _; rfl) (hst : ∀ env, (assignEach es env).findIdx? (·.1) = none := by intro _; rfl) : GVC Z (.Tuple es k p) ix (gTC n r) := by
 obtain ⟨t, a1, a2⟩ := h
 refine ⟨gTup Z.K n t, fun X i => by have q := pg_tup (X := X) (k := k) (pos := p) i.calm (a1 X i) (hn _) (hst _); rw [i.K] at q; exact q, fun g M As env σ I H d v Q env' R rr h k => ?_⟩
 unfold gTC at h
 split at h
 ·split at h
  ·rename_i hl
   obtain ⟨a, vs, rfl, h1, h2⟩ := rr.fix_inv.tup_inv
   exact ⟨a, vs, rfl, SqT.mono R.sub h1, by rw [← h2.length]; exact hl, a2 g M As env σ I H _ vs Q env' R (.ofReps h2) h k⟩
  ·cases h
 ·split at h
  ·rename_i hl
   obtain ⟨a, vs, rfl, h1, h2⟩ := rr.tup_inv
   exact ⟨a, vs, rfl, SqT.mono R.sub h1, by rw [← h2.length]; exact hl, a2 g M As env σ I H _ vs Q env' R h2 h k⟩
  ·cases h
 ·cases h
def eM (gf : aw → aD → Option aD) (a : MEC) : MSC := fun M env => (a M env).bind fun p => (gf p.1 env).map fun e => .nx p.2 e
theorem ei {tg e : Expr} {m : MEC} {ix : List Nat} {gf : aw → aD → Option aD} {pos : Pos} (hg : GVC Z tg ix gf) (h : CEV Z e m) (hs : ∀ env, swapsWithSole [tg] e pos.line env = pure false := by intro _; rfl) (hw : ∀ env, swappedStores [tg] e env = pure none := by intro _; rfl)
  (h1 : ∀ env, (assignEach [tg] env).map (·.2) = [assign tg env] := by intro _; rfl) : CSV Z (.Assign [tg] e pos) (eM gf m) := by
 obtain ⟨t, q1, q2⟩ := h
 obtain ⟨u, g1, g2⟩ := hg
 refine ⟨fun _ => tAsg t u, fun X W k _ => ps_asg (q1 X k) (g1 X k) (hs _) (hw _) (h1 _), fun W g M As env σ I H D fl R hm k => ?_⟩
 unfold eM at hm
 obtain ⟨⟨c, M1⟩, e1, hm⟩ := Option.bind_eq_some_iff.mp hm
 obtain ⟨en, e2, hm⟩ := Option.map_eq_some_iff.mp hm
 cases hm
 exact q2 g M As env σ I H _ c M1 R e1 fun v As1 I1 H1 R1 s1 x1 rv => g2 g M1 As1 env σ I1 H1 c v _ en R1 rv e2 fun σ' R' _ => k σ' As1 I1 H1 R' s1 x1
def nX (o e : MEC) : MSC := fun M env => (o M env).bind fun p => match p.1 with
 | .at j => match p.2[j]? with
  | some (.lst _ _) => (e p.2 env).bind fun q => match q.2[j]? with
   | some (.lst false cs) => if cs.length < sizeLine then some (.nx (q.2.set j (.lst false (cs ++ [q.1]))) env) else none
   | _ => none
  | _ => none
 | _ => none
theorem nA {o e : Expr} {mo m : MEC} {p1 cpos pos : Pos} (ho : CEV Z o mo) (h : CEV Z e m)
  (hbase : ∀ env, attributeBase o "append" env (eval o env) = eval o env := by intro _; rfl)
  (hfew : ∀ env, ((backTo cpos (starEach [e] env)).all (fun x => !x.1) && (backToKw cpos (keywordEach [] env)).all (fun x => x.1.isSome)
   && decide (([e] : List Expr).length + ([] : List Keyword).length + (if ([] : List Keyword).isEmpty then 0 else 1) < 30)) = true := by intro _; rfl)
  (hline : (p1.endLine == cpos.line) = true := by rfl) (hs : ∀ env, starEach [e] env = (false, eval e env) :: starEach [] env := by intro _; rfl) (hplain : ∀ env, (backTo cpos (starEach [] env)).any (·.1) = false := by intro _; rfl)
  (hsw : ∀ env, swapsWith (.Call (.Attribute o "append" p1) [e] [] cpos) none pos.line env = pure false := by intro _; rfl) :
  CSV Z (.Expr (.Call (.Attribute o "append" p1) [e] [] cpos) pos) (nX mo m) := by
 obtain ⟨t, q1, q2⟩ := h
 obtain ⟨u, o1, o2⟩ := ho
 refine ⟨fun _ => tDrop (tBM Z.K "list" rAppend u (tCons t tNil)), fun X W k _ => ?_, fun W g M As env σ I H D fl R hm k => ?_⟩
 ·have q := pe_bm (X := X) (name := "append") (apos := p1) (cpos := cpos) PySem.F.plainAttrs_list PySem.F.slot_list_append PySem.F.type_list_append mt_append (o1 X k) (pa_cons (q1 X k) pa_nil (hs _)) (hbase _) (hfew _) hline (hs _) (hplain _)
  rw [k.K] at q
  exact ps_expr q (hsw _)
 ·unfold nX at hm
  obtain ⟨⟨l, M1⟩, e1, hm⟩ := Option.bind_eq_some_iff.mp hm
  dsimp only at hm
  split at hm
  ·rename_i j
   split at hm
   ·rename_i lk0 cs0 hj0
    obtain ⟨⟨y, M2⟩, e2, hm⟩ := Option.bind_eq_some_iff.mp hm
    dsimp only at hm
    split at hm
    ·rename_i cs hj
     split at hm
     ·rename_i hlen
      cases hm
      refine o2 g M As env σ I H _ _ M1 R e1 fun w As1 I1 H1 R1 s1 x1 rw' => ?_
      obtain ⟨a, rfl, hA⟩ := rw'.at_inv
      obtain ⟨ho0, h01, h02, _⟩ := R1.cell hj0 hA (by intro z; cases z)
      obtain ⟨vs0, rfl, _⟩ := h02.lst_inv
      refine ⟨.inl ⟨rfl, _, SqL.of h01⟩, ?_⟩
      refine q2 g M1 As1 env σ I1 H1 _ y M2 R1 e2 fun v As2 I2 H2 R2 s2 x2 rv => ?_
      have hA2 := x2 _ _ hA
      obtain ⟨ho, h1, h2, _⟩ := R2.cell hj hA2 (by intro z; cases z)
      obtain ⟨vs, rfl, rc⟩ := h2.lst_inv
      refine ⟨a, vs, v, rfl, rfl, h1, by rw [← rc.length]; exact hlen, ?_⟩
      exact k σ As2 I2 _ (R2.put hj hA2 rfl (.lst (rc.append (.cons rv .nil)))) (s1.trans s2) (x1.trans x2)
     ·cases hm
    ·cases hm
   ·cases hm
  ·cases hm
end
end Q
namespace Q
open PySem L2
def nh (M : Mem) : List Nat → Option Mem
 | [] => some M
 | j :: js => match M[j]? with
  | some (.lst _ cs) => nh (M.set j (.lst true cs)) js
  | _ => none
def ek (M : Mem) : List Nat → Mem → Option Mem
 | [], M' => some M'
 | j :: js, M' => match M[j]? with
  | some (.lst lk cs) => (ek (M.set j (.lst true cs)) js M').bind fun M2 => match M2[j]? with
   | some (.lst true cs2) => some (M2.set j (.lst lk cs2))
   | _ => none
  | _ => none
theorem rf {K : PySem.W.Frag} {cl : String → Option Addr} {As : List Addr} {env : aD} {σ : St} {I H : Hp} : ∀ (js : List Nat) (g : CG) (M M1 : Mem), CR K cl g M As env σ I H → nh M js = some M1 →
  ∃ g', CR K cl g' M1 As env σ I H ∧ (∀ a u, g.H0 a = some u → ¬ a9 cl a → g'.H0 a = some u) ∧ (∀ j ∈ js, ∀ a, As[j]? = some a → ∃ o, H a = some o ∧ ¬ a9 cl a ∧ g'.H0 a = some o) ∧
   ∀ (M' M2 : Mem) (As' : List Addr) (env' : aD) (σ' : St) (I' H' : Hp), CR K cl g' M' As' env' σ' I' H' → Ext As As' → ek M js M' = some M2 → CR K cl g M2 As' env' σ' I' H'
 | [], g, M, M1, R, h => by
  cases h
  exact ⟨g, R, fun _ _ h _ => h, fun j hj => (nomatch hj), fun M' M2 As' env' σ' I' H' R' x h => by cases h; exact R'⟩
 | j :: js, g, M, M1, R, h => by
  unfold nh at h
  split at h
  ·rename_i lk cs hj
   obtain ⟨a, hA⟩ := R.addr hj
   obtain ⟨o, h1, h2, h3⟩ := R.cell hj hA (by intro z; cases z)
   have R1 := R.lock hj hA h1
   have nt : ¬ a9 cl a := fun ht => by
    obtain ⟨_, ⟨ps, h4, _⟩, _⟩ := R.tb a ht
    rw [h1] at h4
    exact h2.notTab (Option.some.inj h4)
   obtain ⟨g', R2, q0, q1, q2⟩ := rf js _ _ M1 R1 h
   have up : ∀ b u, g.H0 b = some u → ¬ a9 cl b → (upd g.H0 a o) b = some u := fun b u e n => by
    by_cases z : b = a
    ·subst z
     have := R.h0 b u e n
     rw [h1] at this; cases this
     exact upd_same
    ·rw [upd_ne z]; exact e
   refine ⟨g', R2, fun b u e n => q0 b u (up b u e n) n, fun i hi b hb => ?_, fun M' M2 As' env' σ' I' H' R' x hu => ?_⟩
   ·rcases List.mem_cons.mp hi with rfl | hi
    ·rw [hA] at hb; cases hb
     exact ⟨o, h1, nt, q0 a o upd_same nt⟩
    ·exact q1 i hi b hb
   ·unfold ek at hu
    rw [hj] at hu
    obtain ⟨M3, e1, hu⟩ := Option.bind_eq_some_iff.mp hu
    split at hu
    ·rename_i cs2 hj2
     cases hu
     have R3 := q2 M' M3 As' env' σ' I' H' R' x e1
     refine CR.unlock R3 hj2 (x _ _ hA) (fun hl => ?_) (fun u e => ?_) fun b hb => (R.tb b hb).2.2
     ·subst hl; exact R.mu j _ a hj hA rfl
     ·have := R.h0 a u e nt
      rw [h1] at this; cases this; rfl
    ·cases hu
  ·cases h
abbrev Wk := List Nat × List aw
abbrev MIC := Mem → aD → Option (Wk × Mem)
def WDC (Z : Zc) (J : It) (w : Wk) (As : List Addr) (I H : Hp) : Prop := ∃ (Gd : Hp → Prop) (Y : Nat → Hp → V → Hp → Prop), Walk J w.2.length Gd Y ∧ (∀ I' H', Same I I' → Same I' H' → (∀ j ∈ w.1, ∀ a, As[j]? = some a → H' a = H a) → Gd H') ∧
 ∀ (i : Nat) (c : aw) (g : CG) (M : Mem) (As' : List Addr) (env : aD) (σ : St) (I' H1 : Hp) (x : V) (H2 : Hp), w.2[i]? = some c → Same I I' → Ext As As' → CR Z.K Z.cl g M As' env σ I' H1 → Y i H1 x H2 →
  ∃ I2, CR Z.K Z.cl g M As' env σ I2 H2 ∧ Same I' I2 ∧ cM Z.K Z.cl I2 As' c x
def SIC (Z : Zc) (wi : TI) (m : MIC) : Prop := ∀ (g : CG) (M : Mem) (As : List Addr) (env : aD) (σ : St) (I H : Hp) (R : It → Hp → Prop) (w : Wk) (M' : Mem), CR Z.K Z.cl g M As env σ I H → m M env = some (w, M') →
 (∀ J As' I' H', CR Z.K Z.cl g M' As' env σ I' H' → Same I I' → Ext As As' → WDC Z J w As' I' H' → R J H') → wi σ H R
def IVC (Z : Zc) (tg e : Expr) (m : MIC) : Prop := ∃ wi, (∀ X, InF Z X → PI X tg e wi) ∧ SIC Z wi m
section
variable {Z : Zc}
def pA (m : MI) : MIC := fun M env => (m (eb M env)).map fun p => (([], p.1.map .fix), M)
theorem xb {tg e : Expr} {m : MI} (h : IV Z tg e m) : IVC Z tg e (pA m) := by
 obtain ⟨wi, i1, i2⟩ := h
 refine ⟨wi, i1, fun g M As env σ I H Rr w M' R hm k => ?_⟩
 unfold pA at hm
 obtain ⟨⟨ds, en⟩, e1, hm⟩ := Option.map_eq_some_iff.mp hm
 cases hm
 refine i2 _ _ σ I H Rr ds en R.old e1 fun J I1 H1 R1 s1 wd => k J As I1 H1 (R.back R1) s1 (Ext.refl _) ?_
 obtain ⟨Gd, Y, hw, hgd, hy⟩ := wd
 refine ⟨Gd, Y, by rw [List.length_map]; exact hw, fun I' H' s s' _ => hgd I' H' s s', fun i c g2 M2 As2 env2 σ2 I2 H2 x H3 hc s x2 R2 y => ?_⟩
 rw [List.getElem?_map] at hc
 obtain ⟨d, hd, rfl⟩ := Option.map_eq_some_iff.mp hc
 obtain ⟨I3, R3, s3, r3⟩ := hy i d _ _ σ2 I2 H2 x H3 hd s R2.old y
 exact ⟨I3, R2.back R3, s3, .fix r3⟩
def mB (gf : aw → aD → Option aD) (body : MSC) : List aw → Mem → aD → Option FlC
 | [], M, env => some (.nx M env)
 | c :: cs, M, env => (gf c env).bind fun e => (body M e).bind fun fl => match fl with
  | .nx M' e' => mB gf body cs M' e'
  | .ct M' e' => mB gf body cs M' e'
  | .bk M' e' => some (.nx M' e')
  | .ret r M' e' => some (.ret r M' e')
  | .exc x ks ds M' e' => some (.exc x ks ds M' e')
def iM (M : Mem) (js : List Nat) : FlC → Option FlC
 | .nx M' e => (ek M js M').map fun M2 => .nx M2 e
 | .bk M' e => (ek M js M').map fun M2 => .bk M2 e
 | .ct M' e => (ek M js M').map fun M2 => .ct M2 e
 | .ret r M' e => (ek M js M').map fun M2 => .ret r M2 e
 | .exc x ks ds M' e => (ek M js M').map fun M2 => .exc x ks ds M2 e
def l5 (it : MIC) (gf : aw → aD → Option aD) (body : MSC) : MSC := fun M env => (it M env).bind fun p => (nh p.2 p.1.1).bind fun M1 => (mB gf body p.1.2 M1 env).bind fun fl => iM p.2 p.1.1 fl
theorem wV {tg e : Expr} {b : List Stmt} {mi : MIC} {ix : List Nat} {gf : aw → aD → Option aD} {mb : MSC} {pos : Pos} (hi : IVC Z tg e mi) (hg : GVC Z tg ix gf) (hb : CBV Z b mb) (hs : ∀ env x, foldedSetIterable e env x = pure x := by intro _ _; rfl) : CSV Z (.For tg e b [] pos) (l5 mi gf mb) := by
 obtain ⟨wi, i1, i2⟩ := hi
 obtain ⟨gt, g1, g2⟩ := hg
 obtain ⟨tb, b1, b2⟩ := hb
 refine ⟨fun W => tFor wi gt (tb W), fun X W k w => ps_for k.own k.calm (i1 X k) (g1 X k) (b1 X W k w) (hs _), fun W g M As env σ I H D fl R hm k => ?_⟩
 unfold l5 at hm
 obtain ⟨⟨⟨ls, cs⟩, M1⟩, e1, hm⟩ := Option.bind_eq_some_iff.mp hm
 obtain ⟨M2, e2, hm⟩ := Option.bind_eq_some_iff.mp hm
 obtain ⟨f0, e3, hm⟩ := Option.bind_eq_some_iff.mp hm
 refine i2 g M As env σ I H _ _ M1 R e1 fun J As1 I1 H1 R1 s1 x1 wd => ?_
 obtain ⟨Gd, Y, hw, hgd, hy⟩ := wd
 obtain ⟨g', R2, _, hlk, hun⟩ := rf ls g M1 M2 R1 e2
 dsimp only at e3 hm hw hgd hy
 refine for_it hw (fun i σ' H' => ∃ M' As' env' I', CR Z.K Z.cl g' M' As' env' σ' I' H' ∧ Same I1 I' ∧ Ext As1 As' ∧ mB gf mb (cs.drop i) M' env' = some f0) ⟨M2, As1, env, I1, R2, Same.refl _, Ext.refl _, e3⟩
  (fun i σ' H' _ ⟨M', As', env', I', R', s', x', _⟩ => hgd I' H' s' R'.sub fun j hj a hA => by
   obtain ⟨o, q1, q2, q3⟩ := hlk j hj a hA
   rw [q1]; exact R'.h0 a o q3 q2) ?_ ?_
 ·rintro i x σ3 H3 H4 hlt ⟨M3, As3, env3, I3, R3, s3, x3, hm3⟩ hyld
  have hd : cs[i]? = some cs[i] := List.getElem?_eq_getElem hlt
  have hdrop : cs.drop i = cs[i] :: cs.drop (i + 1) := List.drop_eq_getElem_cons hlt
  rw [hdrop] at hm3
  obtain ⟨I4, R4, s4, r4⟩ := hy i cs[i] g' M3 As3 env3 σ3 I3 H3 x H4 hd s3 x3 R3 hyld
  unfold mB at hm3
  obtain ⟨en2, e4, hm3⟩ := Option.bind_eq_some_iff.mp hm3
  obtain ⟨f, e5, hm3⟩ := Option.bind_eq_some_iff.mp hm3
  refine g2 g' M3 As3 env3 σ3 I4 H4 cs[i] x _ en2 R4 r4 e4 fun σ5 R5 _ => ?_
  refine b2 W g' M3 As3 en2 σ5 I4 H4 _ f R5 e5 ?_
  have s := s3.trans s4
  cases f with
  | nx M6 e => exact fun σ6 As6 I6 H6 R6 s6 x6 => ⟨M6, As6, e, I6, R6, s.trans s6, x3.trans x6, hm3⟩
  | ct M6 e => exact fun σ6 As6 I6 H6 R6 s6 x6 => ⟨M6, As6, e, I6, R6, s.trans s6, x3.trans x6, hm3⟩
  | bk M6 e =>
   cases hm3
   obtain ⟨M7, e6, hm⟩ := Option.map_eq_some_iff.mp hm
   cases hm
   exact fun σ6 As6 I6 H6 R6 s6 x6 => k σ6 As6 I6 H6 (hun _ _ _ _ _ _ _ R6 (x3.trans x6) e6) (s1.trans (s.trans s6)) (x1.trans (x3.trans x6))
  | ret r M6 e =>
   cases hm3
   obtain ⟨M7, e6, hm⟩ := Option.map_eq_some_iff.mp hm
   cases hm
   exact fun σ6 As6 I6 H6 v R6 s6 x6 hr => k σ6 As6 I6 H6 v (hun _ _ _ _ _ _ _ R6 (x3.trans x6) e6) (s1.trans (s.trans s6)) (x1.trans (x3.trans x6)) hr
  | exc r ks ds M6 e =>
   cases hm3
   obtain ⟨M7, e6, hm⟩ := Option.map_eq_some_iff.mp hm
   cases hm
   exact fun σ6 As6 I6 H6 C d vs R6 s6 x6 => k σ6 As6 I6 H6 C d vs (hun _ _ _ _ _ _ _ R6 (x3.trans x6) e6) (s1.trans (s.trans s6)) (x1.trans (x3.trans x6))
 ·rintro σ3 H3 ⟨M3, As3, env3, I3, R3, s3, x3, hm3⟩
  rw [List.drop_length] at hm3
  cases hm3
  obtain ⟨M7, e6, hm⟩ := Option.map_eq_some_iff.mp hm
  cases hm
  exact k σ3 As3 I3 H3 (hun _ _ _ _ _ _ _ R3 x3 e6) (s1.trans s3) (x1.trans x3)
def vB (env : aD) : List Nat → aD
 | [] => env
 | v :: vs => (vB env vs).set v none
theorem CR.wipe {K : PySem.W.Frag} {cl : String → Option Addr} {g : CG} {M : Mem} {As : List Addr} {env : aD} {σ : St} {I H : Hp} (R : CR K cl g M As env σ I H) : ∀ vs, CR K cl g M As (vB env vs) (L2.wipe σ vs) I H
 | [] => R
 | v :: vs => (CR.wipe R vs).unset v none
end
end Q
namespace Q
open PySem L2
end Q
namespace Q
open PySem L2
def gU (As : List Addr) (j : Nat) : Addr := (As[j]?).getD 0
theorem iS {As : List Addr} {j : Nat} {a : Addr} (h : As[j]? = some a) : gU As j = a := by unfold gU; rw [h]; rfl
def fc (M : Mem) (md k : Nat) : aw → Option Sl
 | .fix d => if md = 2 then none else some (.imm d)
 | .at j => (M[j]?).bind fun c => c.flat.bind fun d => if md = 2 then (if c.mut = true then some (.io k d) else none) else if md = 1 then some (.bor d) else none
 | .tup _ => none
def dM (M : Mem) : List Nat → Nat → List aw → Option (List Sl)
 | md :: mds, k, c :: cs => (fc M md k c).bind fun s => (dM M mds (if md = 2 then k + 1 else k) cs).map fun ss => s :: ss
 | [], _, [] => some []
 | _, _, _ => none
def aw.at? : aw → Option Nat
 | .at j => some j
 | _ => none
def ioC : List Nat → List aw → List Nat
 | md :: mds, c :: cs => if md = 2 then (match c with
  | .at j => j :: ioC mds cs
  | _ => ioC mds cs) else ioC mds cs
 | _, _ => []
theorem qR (cs : List aw) (mds : List Nat) (j : Nat) : ioC (2 :: mds) (.at j :: cs) = j :: ioC mds cs := rfl
theorem sZ {md : Nat} (h : md ≠ 2) (c : aw) (cs : List aw) (mds : List Nat) : ioC (md :: mds) (c :: cs) = ioC mds cs := by
 show (if md = 2 then _ else _) = _
 rw [if_neg h]
def ioP : Nat → List Nat → List Nat
 | n, md :: mds => if md = 2 then n :: ioP (n + 1) mds else ioP (n + 1) mds
 | _, [] => []
def fu (cs : List aw) : List Nat := cs.filterMap aw.at?
def okC (mds : List Nat) (cs : List aw) : Bool := (ioC mds cs).isEmpty || decide (fu cs).Nodup
def gi (M : Mem) : List Nat → List D → Option Mem
 | [], [] => some M
 | j :: js, d :: ds => (cellOf d).bind fun c => gi (M.set j c) js ds
 | _, _ => none
theorem nN {M : Mem} : ∀ {mds : List Nat} {n : Nat} {cs : List aw} {ss : List Sl}, dM M mds n cs = some ss → ss.length = cs.length
 | [], n, [], ss, h => by cases h; rfl
 | [], n, _ :: _, ss, h => by cases h
 | _ :: _, n, [], ss, h => by cases h
 | md :: mds, n, c :: cs, ss, h => by
  unfold dM at h
  obtain ⟨s, e1, h⟩ := Option.bind_eq_some_iff.mp h
  obtain ⟨r, e2, h⟩ := Option.map_eq_some_iff.mp h
  cases h
  simp [nN e2]
theorem ke {M : Mem} : ∀ {mds : List Nat} {n : Nat} {cs : List aw} {ss : List Sl} {k : Nat} {s : Sl}, dM M mds n cs = some ss → ss[k]? = some s → ∃ md c, cs[k]? = some c ∧ fc M md (n + (ioC (mds.take k) (cs.take k)).length) c = some s ∧ mds[k]? = some md
 | [], n, [], ss, k, s, h, hk => by cases h; simp at hk
 | [], n, _ :: _, ss, k, s, h, hk => by cases h
 | _ :: _, n, [], ss, k, s, h, hk => by cases h
 | md :: mds, n, c :: cs, ss, k, s, h, hk => by
  unfold dM at h
  obtain ⟨s1, e1, h⟩ := Option.bind_eq_some_iff.mp h
  obtain ⟨r, e2, h⟩ := Option.map_eq_some_iff.mp h
  cases h
  cases k with
  | zero => cases hk; exact ⟨md, c, rfl, by simpa [ioC] using e1, rfl⟩
  | succ k =>
   obtain ⟨md', c', h1, h2, h3⟩ := ke e2 (by simpa using hk)
   refine ⟨md', c', by simpa using h1, ?_, by simpa using h3⟩
   have : n + (ioC ((md :: mds).take (k + 1)) ((c :: cs).take (k + 1))).length = (if md = 2 then n + 1 else n) + (ioC (mds.take k) (cs.take k)).length := by
    rw [List.take_succ_cons, List.take_succ_cons]
    by_cases hm : md = 2
    ·subst hm
     cases c with
     | «at» j => rw [qR]; simp only [List.length_cons, if_true]; omega
     | fix d => simp [fc] at e1
     | tup cs => simp [fc] at e1
    ·rw [sZ hm]; simp only [hm, if_false]
   rw [this]; exact h2
theorem qf : ∀ {mds : List Nat} {cs : List aw} {k j : Nat}, mds[k]? = some 2 → cs[k]? = some (.at j) → (ioC mds cs)[(ioC (mds.take k) (cs.take k)).length]? = some j
 | [], cs, k, j, h, _ => by simp at h
 | md :: mds, [], k, j, _, h => by simp at h
 | md :: mds, c :: cs, 0, j, h1, h2 => by
  simp at h1 h2
  subst h1; subst h2
  simp [ioC]
 | md :: mds, c :: cs, k + 1, j, h1, h2 => by
  have ih := qf (mds := mds) (cs := cs) (k := k) (j := j) (by simpa using h1) (by simpa using h2)
  rw [List.take_succ_cons, List.take_succ_cons]
  unfold ioC
  by_cases hm : md = 2
  ·simp only [hm, if_true]
   cases c with
   | «at» i => simpa using ih
   | fix d => exact ih
   | tup ds => exact ih
  ·simp only [hm, if_false]; exact ih
theorem iJ {M : Mem} : ∀ {mds : List Nat} {n : Nat} {cs : List aw} {ss : List Sl} {j : Nat}, dM M mds n cs = some ss → j ∈ ioC mds cs → ∃ c d, M[j]? = some c ∧ c.mut = true ∧ c.flat = some d
 | [], n, cs, ss, j, h, hj => by simp [ioC] at hj
 | _ :: _, n, [], ss, j, h, hj => by cases h
 | md :: mds, n, c :: cs, ss, j, h, hj => by
  unfold dM at h
  obtain ⟨s1, e1, h⟩ := Option.bind_eq_some_iff.mp h
  obtain ⟨r, e2, h⟩ := Option.map_eq_some_iff.mp h
  cases h
  unfold ioC at hj
  by_cases hm : md = 2
  ·simp only [hm, if_true] at hj
   cases c with
   | «at» i =>
    simp only at hj
    rcases List.mem_cons.mp hj with rfl | hj
    ·rw [hm] at e1
     unfold fc at e1
     obtain ⟨c, f1, e1⟩ := Option.bind_eq_some_iff.mp e1
     obtain ⟨d, f2, e1⟩ := Option.bind_eq_some_iff.mp e1
     simp only [if_true] at e1
     split at e1
     ·rename_i hmu; exact ⟨c, d, f1, hmu, f2⟩
     ·cases e1
    ·exact iJ e2 hj
   | fix d => exact iJ e2 hj
   | tup ds => exact iJ e2 hj
  ·simp only [hm, if_false] at hj
   exact iJ e2 hj
theorem jd (c : aw) (cs : List aw) : fu (c :: cs) = (match c.at? with
 | some j => j :: fu cs
 | none => fu cs) := by
 unfold fu
 rw [List.filterMap_cons]
 cases c <;> rfl
theorem qU : ∀ (mds : List Nat) (cs : List aw), (ioC mds cs).Sublist (fu cs)
 | [], cs => by simp [ioC]
 | _ :: _, [] => by simp [ioC]
 | md :: mds, c :: cs => by
  have ih := qU mds cs
  rw [jd]
  by_cases hm : md = 2
  ·subst hm
   cases c with
   | «at» i => rw [qR]; exact ih.cons₂ _
   | fix d => exact ih
   | tup ds => exact ih
  ·rw [sZ hm]
   cases c with
   | «at» i => exact ih.cons _
   | fix d => exact ih
   | tup ds => exact ih
theorem qx {cs : List aw} {k j : Nat} (h : cs[k]? = some (.at j)) : j ∈ fu cs := by
 unfold fu
 exact List.mem_filterMap.mpr ⟨.at j, List.mem_of_getElem? h, rfl⟩
theorem qP : ∀ {cs : List aw} {i k j : Nat}, (fu cs).Nodup → cs[i]? = some (.at j) → cs[k]? = some (.at j) → i = k
 | [], i, k, j, _, h, _ => by simp at h
 | c :: cs, 0, 0, j, _, _, _ => rfl
 | c :: cs, 0, k + 1, j, hn, h1, h2 => by
  simp at h1 h2
  subst h1
  rw [jd] at hn
  exact absurd (qx h2) (List.nodup_cons.mp hn).1
 | c :: cs, i + 1, 0, j, hn, h1, h2 => by
  simp at h1 h2
  subst h2
  rw [jd] at hn
  exact absurd (qx h1) (List.nodup_cons.mp hn).1
 | c :: cs, i + 1, k + 1, j, hn, h1, h2 => by
  have hn2 : (fu cs).Nodup := by
   rw [jd] at hn
   cases c with
   | «at» i => exact (List.nodup_cons.mp hn).2
   | fix d => exact hn
   | tup ds => exact hn
  have h1' : cs[i]? = some (.at j) := by simpa using h1
  have h2' : cs[k]? = some (.at j) := by simpa using h2
  have := qP hn2 h1' h2'
  omega
theorem tJ {mds : List Nat} {cs : List aw} (h : okC mds cs = true) : (ioC mds cs).Nodup := by
 have h : ioC mds cs = [] ∨ (fu cs).Nodup := by simpa [okC] using h
 rcases h with h | h
 ·rw [h]; exact List.nodup_nil
 ·exact h.sublist (qU _ _)
section
variable {K : PySem.W.Frag} {cl : String → Option Addr} {g : CG} {M M2 : Mem} {As : List Addr} {env : aD} {σ : St} {I I2 H H2 : Hp}
theorem bo.startGet {N : List Str} {cs : List aw} {vs : List V} {k : Nat} {c : aw} (r : bo K cl I As cs vs) (h : cs[k]? = some c) : ∃ v, (start N vs)[k]? = some (some v) ∧ cM K cl I As c v := by
 obtain ⟨v, h1, h2⟩ := r.get h
 refine ⟨v, ?_, h2⟩
 unfold L2.start
 rw [List.getElem?_append_left (by rw [List.length_map]; exact (List.getElem?_eq_some_iff.mp h1).1), List.getElem?_map, h1]; rfl
theorem xO {N : List Str} {mds : List Nat} {cs : List aw} {vs : List V} {ss : List Sl} (R : CR K cl g M As env σ I H) (r : bo K cl I As cs vs) (hss : dM M mds 0 cs = some ss) (hok : okC mds cs = true) :
  SR K cl ⟨I, H, (ioC mds cs).map (gU As), []⟩ (ss ++ List.replicate (N.length - ss.length) .un) (start N vs) I H := by
 have hl := nN hss
 have hv := r.length
 have low : ∀ (k : Nat) (s : Sl), (ss ++ List.replicate (N.length - ss.length) Sl.un)[k]? = some s → (ss[k]? = some s) ∨ (s = .un ∧ (start N vs)[k]? = some none) := fun k s h => by
  by_cases hk : k < ss.length
  ·rw [List.getElem?_append_left hk] at h; exact .inl h
  ·rw [List.getElem?_append_right (by omega), List.getElem?_replicate] at h
   split at h
   ·cases h
    refine .inr ⟨rfl, ?_⟩
    unfold L2.start
    rw [List.getElem?_append_right (by rw [List.length_map]; omega), List.getElem?_replicate, List.length_map, if_pos (by omega)]
   ·cases h
 have tops : ∀ (k : Nat) (s : Sl) (a : Addr), (ss ++ List.replicate (N.length - ss.length) Sl.un)[k]? = some s → s.top = true → (start N vs)[k]? = some (some (.ref a)) → ∃ j, cs[k]? = some (.at j) ∧ As[j]? = some a ∧ (s.mut = true → ∃ n, (ioC mds cs)[n]? = some j) := fun k s a h ht hv2 => by
  rcases low k s h with h | ⟨rfl, _⟩
  ·obtain ⟨md, c, h1, h2, h3⟩ := ke hss h
   obtain ⟨v, h4, h5⟩ := r.startGet (N := N) h1
   rw [h4] at hv2; cases hv2
   cases c with
   | fix d =>
    simp only [fc] at h2
    split at h2
    ·cases h2
    ·cases h2; cases ht
   | tup ds => simp only [fc] at h2; cases h2
   | «at» j =>
    obtain ⟨a', e, hA⟩ := h5.at_inv
    cases e
    refine ⟨j, h1, hA, fun hm => ?_⟩
    unfold fc at h2
    obtain ⟨c, f1, h2⟩ := Option.bind_eq_some_iff.mp h2
    obtain ⟨d, f2, h2⟩ := Option.bind_eq_some_iff.mp h2
    by_cases hmd : md = 2
    ·subst hmd; exact ⟨_, qf h3 h1⟩
    ·simp only [hmd, if_false] at h2
     split at h2
     ·cases h2; cases hm
     ·cases h2
  ·cases ht
 refine ⟨R.sub, Same.refl _, fun a o h _ _ => h, fun a o _ h => h, fun a ha => ?_, ?_, fun k s hk => ?_, fun i k s s' a hne h1 h2 m1 m2 q1 q2 => ?_, fun a o h => (nomatch h), fun a o h => (nomatch h), fun a ht => let ⟨t1, t2, _⟩ := R.tb a ht; ⟨t1, t2, let ⟨ps, h, _⟩ := t2; ⟨_, h⟩⟩⟩
 ·obtain ⟨j, hj, rfl⟩ := List.mem_map.mp ha
  obtain ⟨c, d, f1, f2, f3⟩ := iJ hss hj
  obtain ⟨a, hA⟩ := R.addr f1
  obtain ⟨o, q1, _, q3⟩ := R.cell f1 hA (Cell.mut_alive f2)
  rw [iS hA]
  exact ⟨⟨o, q1⟩, q3, o, q1⟩
 ·unfold L2.start
  rw [List.length_append, List.length_append, List.length_replicate, List.length_replicate, List.length_map]; omega
 ·rcases low k s hk with h | ⟨rfl, h2⟩
  ·obtain ⟨md, c, h1, h2, h3⟩ := ke hss h
   obtain ⟨v, h4, h5⟩ := r.startGet (N := N) h1
   refine ⟨_, h4, ?_⟩
   cases c with
   | fix d =>
    simp only [fc] at h2
    split at h2
    ·cases h2
    ·cases h2; exact ⟨v, rfl, h5.fix_inv⟩
   | tup ds => simp only [fc] at h2; cases h2
   | «at» j =>
    obtain ⟨a, rfl, hA⟩ := h5.at_inv
    unfold fc at h2
    obtain ⟨c, f1, h2⟩ := Option.bind_eq_some_iff.mp h2
    obtain ⟨d, f2, h2⟩ := Option.bind_eq_some_iff.mp h2
    obtain ⟨o, q1, q2, q3⟩ := R.cell f1 hA (by intro z; subst z; cases f2)
    by_cases hmd : md = 2
    ·subst hmd
     simp only [if_true] at h2
     split at h2
     ·cases h2
      refine ⟨a, o, rfl, ?_, q1, q2.flat f2⟩
      rw [Nat.zero_add, List.getElem?_map, qf h3 h1]
      show some (gU As j) = _
      rw [iS hA]
     ·cases h2
    ·simp only [hmd, if_false] at h2
     split at h2
     ·cases h2; exact ⟨a, rfl, o, q1, q2.flat f2⟩
     ·cases h2
  ·exact ⟨none, h2, trivial⟩
 ·have m1t : s.top = true := by cases s <;> first | rfl | cases m1
  obtain ⟨j, f1, f2, f3⟩ := tops i s a h1 m1t q1
  obtain ⟨j', k1, k2, _⟩ := tops k s' a h2 m2 q2
  cases R.inj f2 k2
  obtain ⟨n, hn⟩ := f3 m1
  have hok : ioC mds cs = [] ∨ (fu cs).Nodup := by simpa [okC] using hok
  rcases hok with h | h
  ·rw [h] at hn; simp at hn
  ·exact hne (qP h f1 k1)
theorem CR.after (R : CR K cl g M As env σ I H) (sub : Same I2 H2) (i : Same I I2) (js : List Nat) (h : ∀ a o, H a = some o → a ∉ js.map (gU As) → ¬ a9 cl a → H2 a = some o) (hi : ∀ a o, H a = some o → I a = none → I2 a = none) (tb : ∀ a, a9 cl a → GxR.TabG H2 a)
  (hjs : ∀ j ∈ js, ∃ c0, M[j]? = some c0 ∧ c0.mut = true) (hl : M2.length = M.length)
  (hm : ∀ j c, M2[j]? = some c → (j ∉ js ∧ M[j]? = some c) ∨ (j ∈ js ∧ ∃ o, H2 (gU As j) = some o ∧ c6 K cl I2 As c o)) : CR K cl g M2 As env σ I2 H2 := by
 have nin : ∀ j a, As[j]? = some a → j ∉ js → a ∉ js.map (gU As) := fun j a hA hj hx => by
  obtain ⟨j2, h1, h2⟩ := List.mem_map.mp hx
  obtain ⟨c0, h3, _⟩ := hjs j2 h1
  obtain ⟨b, hB⟩ := R.addr h3
  rw [iS hB] at h2
  subst h2
  exact hj (by rw [R.inj hA hB]; exact h1)
 have g0 : ∀ a ∈ js.map (gU As), g.H0 a = none := fun a ha => by
  obtain ⟨j2, h1, rfl⟩ := List.mem_map.mp ha
  obtain ⟨c0, h3, h4⟩ := hjs j2 h1
  obtain ⟨b, hB⟩ := R.addr h3
  rw [iS hB]
  exact R.mu j2 c0 b h3 hB h4
 refine ⟨sub, R.i0.trans i, fun a o e n => h a o (R.h0 a o e n) (fun hx => by rw [g0 a hx] at e; cases e) n, fun a o e e0 => ?_, R.len, fun k c e => ?_, by rw [hl]; exact R.ml, R.nd, fun a ha => ?_, fun j c a e1 e2 e3 => ?_, fun j c a e1 e2 e3 => ?_, fun a ht => ?_⟩
 ·by_cases ht : a9 cl a
  ·obtain ⟨h1, ⟨ps, h2, _⟩, _⟩ := R.tb a ht
   exact hi a _ h2 h1
  ·exact hi a o (R.h0 a o e ht) (R.hi a o e e0)
 ·obtain ⟨v, h1, h2⟩ := R.at_ k c e; exact ⟨v, h1, h2.mono i (Ext.refl _)⟩
 ·by_cases ht : a9 cl a
  ·obtain ⟨ps, h2, _⟩ := tb a ht; exact ⟨_, h2⟩
  ·by_cases hx : a ∈ js.map (gU As)
   ·obtain ⟨j2, h1, rfl⟩ := List.mem_map.mp hx
    obtain ⟨c0, h3, _⟩ := hjs j2 h1
    have hl2 : j2 < M2.length := by rw [hl]; exact (List.getElem?_eq_some_iff.mp h3).1
    rcases hm j2 _ (List.getElem?_eq_getElem hl2) with ⟨h4, _⟩ | ⟨_, o, h4, _⟩
    ·exact absurd h1 h4
    ·exact ⟨o, h4⟩
   ·obtain ⟨o, h1⟩ := R.al a ha; exact ⟨o, h a o h1 hx ht⟩
 ·rcases hm j c e1 with ⟨h1, h2⟩ | ⟨h1, o, h2, h3⟩
  ·obtain ⟨q1, o, q2, q3⟩ := R.me j c a h2 e2 e3
   have ht : ¬ a9 cl a := fun ht => by
    obtain ⟨_, ⟨ps, h4, _⟩, _⟩ := R.tb a ht
    rw [q2] at h4
    exact q3.notTab (Option.some.inj h4)
   exact ⟨hi a o q2 q1, o, h a o q2 (nin j a e2 h1) ht, q3.mono i (Ext.refl _)⟩
  ·obtain ⟨c0, f1, f2⟩ := hjs j h1
   obtain ⟨q1, u, q2, q3⟩ := R.me j c0 a f1 e2 (Cell.mut_alive f2)
   rw [iS e2] at h2
   exact ⟨hi a u q2 q1, o, h2, h3⟩
 ·rcases hm j c e1 with ⟨h1, h2⟩ | ⟨h1, o, h2, h3⟩
  ·exact R.mu j c a h2 e2 e3
  ·obtain ⟨c0, f1, f2⟩ := hjs j h1
   exact R.mu j c0 a f1 e2 f2
 ·obtain ⟨h1, ⟨ps, h2, _⟩, h3⟩ := R.tb a ht
  exact ⟨hi a _ h2 h1, tb a ht, h3⟩
theorem oM : ∀ {js : List Nat} {ds : List D} {M M2 : Mem}, js.Nodup → gi M js ds = some M2 → M2.length = M.length ∧ ∀ (j : Nat) (c : Cell), M2[j]? = some c → (j ∉ js ∧ M[j]? = some c) ∨ (∃ (i : Nat) (d : D), js[i]? = some j ∧ ds[i]? = some d ∧ cellOf d = some c)
 | [], [], M, M2, _, h => by cases h; exact ⟨rfl, fun j c h => .inl ⟨by simp, h⟩⟩
 | [], _ :: _, M, M2, _, h => by cases h
 | _ :: _, [], M, M2, _, h => by cases h
 | j :: js, d :: ds, M, M2, hn, h => by
  unfold gi at h
  obtain ⟨c, e1, h⟩ := Option.bind_eq_some_iff.mp h
  obtain ⟨n1, n2⟩ := List.nodup_cons.mp hn
  obtain ⟨h1, h2⟩ := oM n2 h
  refine ⟨by rw [h1, List.length_set], fun k c' hk => ?_⟩
  rcases h2 k c' hk with ⟨q1, q2⟩ | ⟨i, d', q1, q2, q3⟩
  ·rcases bW q2 with ⟨rfl, _, rfl⟩ | ⟨ne, q2⟩
   ·exact .inr ⟨0, d, rfl, rfl, e1⟩
   ·exact .inl ⟨by simp [ne, q1], q2⟩
  ·exact .inr ⟨i + 1, d', by simpa using q1, by simpa using q2, q3⟩
theorem p9 {e : En} : ∀ {js : List Nat} {n : Nat} {ds : List D} {i : Nat} {d : D}, eK e js n = some ds → ds[i]? = some d → ∃ k, js[i]? = some k ∧ e[k]? = some (.io (n + i) d)
 | [], n, ds, i, d, h, hi => by cases h; simp at hi
 | j :: js, n, ds, i, d, h, hi => by
  unfold eK at h
  split at h
  ·rename_i n' d0 hj
   split at h
   ·rename_i hn
    subst hn
    obtain ⟨es, e1, h⟩ := Option.map_eq_some_iff.mp h
    cases h
    cases i with
    | zero => simp at hi; subst hi; exact ⟨j, rfl, hj⟩
    | succ i =>
     obtain ⟨k, q1, q2⟩ := p9 e1 (by simpa using hi)
     exact ⟨k, by simpa using q1, by rw [q2]; congr 2; omega⟩
   ·cases h
  ·cases h
theorem th {mds : List Nat} {cs : List aw} {ss : List Sl} {cenv : En} {σc : St} {ds : List D} (R : CR K cl g M As env σ I H) (hss : dM M mds 0 cs = some ss) (hok : okC mds cs = true)
  (Rc : SR K cl ⟨I, H, (ioC mds cs).map (gU As), []⟩ cenv σc I2 H2) (hio : eK cenv (ioP 0 mds) 0 = some ds) (hput : gi M (ioC mds cs) ds = some M2) : CR K cl g M2 As env σ I2 H2 := by
 obtain ⟨p1, p2⟩ := oM (tJ hok) hput
 refine R.after Rc.sub Rc.i0 (ioC mds cs) (fun a o h n t => Rc.h0 a o h n t) (fun a o h h' => Rc.hi a o h h') (fun a ht => (Rc.tb a ht).2.1) (fun j hj => let ⟨c, d, f1, f2, _⟩ := iJ hss hj; ⟨c, f1, f2⟩) p1 fun j c hj => ?_
 rcases p2 j c hj with h | ⟨i, d, h1, h2, h3⟩
 ·exact .inl h
 ·obtain ⟨k, q1, q2⟩ := p9 hio h2
  obtain ⟨x, hx, a, o, rfl, w0, w1, w2⟩ := Rc.at_ k _ q2
  rw [Nat.zero_add, List.getElem?_map, h1] at w0
  cases w0
  exact .inr ⟨List.mem_of_getElem? h1, o, w1, je h3 w2⟩
end
section
variable {Z : Zc}
def dB (N : List Str) (np : Nat) (mds : List Nat) (mf : MS) (a : MAC) : MEC := fun M env => (a M env).bind fun p => if p.1.length = np ∧ okC mds p.1 = true then (dM p.2 mds 0 p.1).bind fun ss => (res N mf ss (ioP 0 mds)).bind fun r => (gi p.2 (ioC mds p.1) r.2).map fun M2 => (.fix r.1, M2) else none
def nU (N : List Str) (np : Nat) (mds : List Nat) (mf : MS) (a : MAC) : MEC := fun M env => (a M env).bind fun p => if p.1.length = np ∧ okC mds p.1 = true then (dM p.2 mds 0 p.1).bind fun ss => (yP N mf ss (ioP 0 mds)).bind fun r => (gi p.2 (ioC mds p.1) r.2).bind fun M2 => (cellOf r.1).map fun c => (.at M2.length, M2 ++ [c]) else none
theorem vb {N : List Str} {mf : MS} {ss : List Sl} {js : List Nat} {md : Md} {d : D} {ds : List D} (h : gH N mf ss js = some (md, d, ds)) :
  ∃ fl e, mf (ss ++ List.replicate (N.length - ss.length) .un) = some fl ∧ eK e js 0 = some ds ∧ ((fl = .nx e ∧ md = .imm ∧ d = .non) ∨ fl = .ret md d e) := by
 unfold gH at h
 obtain ⟨fl, e1, h⟩ := Option.bind_eq_some_iff.mp h
 cases fl with
 | nx e => obtain ⟨x, e2, h⟩ := Option.map_eq_some_iff.mp h; cases h; exact ⟨_, e, e1, e2, .inl ⟨rfl, rfl, rfl⟩⟩
 | ret md' d' e => obtain ⟨x, e2, h⟩ := Option.map_eq_some_iff.mp h; cases h; exact ⟨_, e, e1, e2, .inr rfl⟩
 | bk e => cases h
 | ct e => cases h
theorem oK {g : CG} {M M2 : Mem} {As : List Addr} {env : aD} {σ : St} {I H : Hp} {N : List Str} {np : Nat} {mds : List Nat} {mf : MS} {cs : List aw} {vs : List V} {ss : List Sl} {md : Md} {d : D} {ds : List D} {Q : VK} {E : XK}
  (R : CR Z.K Z.cl g M As env σ I H) (r : bo Z.K Z.cl I As cs vs) (hnp : cs.length = np) (hss : dM M mds 0 cs = some ss) (hok : okC mds cs = true) (hr : gH N mf ss (ioP 0 mds) = some (md, d, ds)) (hput : gi M (ioC mds cs) ds = some M2)
  (k : ∀ v I' H', CR Z.K Z.cl g M2 As env σ I' H' → Same I I' → (md = .imm → Rep Z.K Z.cl I' d v) → (md = .new → ∃ p o, v = .ref p ∧ p ∉ As ∧ H' p = some o ∧ I' p = none ∧ g.H0 p = none ∧ bu Z.K Z.cl I' d o) → Q v H') : spM Z.K Z.cl N np mf vs H Q E := by
 obtain ⟨fl, e, h1, h2, h3⟩ := vb hr
 refine ⟨by rw [← r.length]; exact hnp, _, _, I, fl, xO (N := N) R r hss hok, h1, ?_⟩
 rcases h3 with ⟨rfl, rfl, rfl⟩ | rfl
 ·intro σ' I' H' R' s
  exact k .non I' H' (th R hss hok R' h2 hput) s (fun _ => .non) fun z => by cases z
 ·intro σ' I' H' v R' s hv
  refine k v I' H' (th R hss hok R' h2 hput) s (fun z => by subst z; exact hv) fun z => ?_
  subst z
  obtain ⟨p, o, rfl, n, ro⟩ := hv
  have hp : H p = none := n.h0
  exact ⟨p, o, rfl, R.notIn hp, n.at_, n.i, R.fresh0 hp, ro⟩
theorem CR.freezeP {K : PySem.W.Frag} {cl : String → Option Addr} {g : CG} {M : Mem} {As : List Addr} {env : aD} {σ : St} {I H : Hp} (R : CR K cl g M As env σ I H) {p : Addr} {o : HO} (hA : p ∉ As) (hp : H p = some o) (h0 : g.H0 p = none) (nt : ∀ ps, o ≠ .tbl ps) : CR K cl g M As env σ (upd I p o) H := by
 by_cases hI : I p = none
 ·have s : Same I (upd I p o) := Same.new hI
  have ne : ∀ j a, As[j]? = some a → a ≠ p := fun j a h z => hA (by rw [← z]; exact List.mem_of_getElem? h)
  refine ⟨fun b u e => ?_, R.i0.trans s, R.h0, fun b u e1 e2 => ?_, R.len, fun i d e => ?_, R.ml, R.nd, R.al, fun i d b e1 e2 e3 => ?_, R.mu, fun b ht => ?_⟩
  ·by_cases z : b = p
   ·subst z; rw [upd_same] at e; cases e; exact hp
   ·rw [upd_ne z] at e; exact R.sub b u e
  ·rw [upd_ne (fun z => by subst z; rw [h0] at e1; cases e1)]; exact R.hi b u e1 e2
  ·obtain ⟨v, h1, h2⟩ := R.at_ i d e; exact ⟨v, h1, h2.mono s (Ext.refl _)⟩
  ·obtain ⟨h1, u, h2, h3⟩ := R.me i d b e1 e2 e3
   exact ⟨by rw [upd_ne (ne i b e2)]; exact h1, u, h2, h3.mono s (Ext.refl _)⟩
  ·obtain ⟨h1, h2, h3⟩ := R.tb b ht
   have z : b ≠ p := fun z => by
    subst z
    obtain ⟨ps, h4, _⟩ := h2
    rw [hp] at h4
    exact nt ps (Option.some.inj h4)
   exact ⟨by rw [upd_ne z]; exact h1, h2, h3⟩
 ·cases e : I p with
  | none => exact absurd e hI
  | some u =>
   have := R.sub p u e
   rw [hp] at this; cases this
   have : upd I p o = I := by
    funext b; unfold upd; split
    ·rename_i z; subst z; exact e.symm
    ·rfl
   rw [this]; exact R
theorem ux {N : List Str} {np : Nat} {mds : List Nat} {mf : MS} {t : TA} {a : MAC} (h : SAC Z t a) : SEC Z (tCall (spM Z.K Z.cl N np mf) [] E0 t) (dB N np mds mf a) := by
 intro g M As env σ I H Q c M' R hm k
 unfold dB at hm
 obtain ⟨⟨cs, M1⟩, e1, hm⟩ := Option.bind_eq_some_iff.mp hm
 dsimp only at hm
 split at hm
 ·rename_i hc
  obtain ⟨ss, e2, hm⟩ := Option.bind_eq_some_iff.mp hm
  obtain ⟨⟨d, ds⟩, e3, hm⟩ := Option.bind_eq_some_iff.mp hm
  obtain ⟨M2, e4, hm⟩ := Option.map_eq_some_iff.mp hm
  cases hm
  unfold res at e3
  obtain ⟨⟨md, d', ds'⟩, e5, e6⟩ := Option.map_eq_some_iff.mp e3
  cases e6
  refine h g M As env σ I H _ cs M1 R e1 fun vs As1 I1 H1 R1 s1 x1 rs => ?_
  rw [List.append_nil]
  refine oK R1 rs hc.1 e2 hc.2 e5 e4 fun v I2 H2 R2 s2 hi hn => ?_
  cases md with
  | imm => exact k v As1 I2 H2 R2 (s1.trans s2) x1 (.fix (hi rfl))
  | new =>
   obtain ⟨p, o, rfl, hA, hp, hI, h0, ro⟩ := hn rfl
   have R3 := R2.freezeP hA hp h0 fun ps z => ro.notTab z
   have s3 : Same I2 (upd I2 p o) := Same.new hI
   exact k _ As1 _ H2 R3 ((s1.trans s2).trans s3) x1 (.fix (.obj upd_same (ro.mono s3)))
 ·cases hm
theorem vm {N : List Str} {np : Nat} {mds : List Nat} {mf : MS} {t : TA} {a : MAC} (h : SAC Z t a) : SEC Z (tCall (spM Z.K Z.cl N np mf) [] E0 t) (nU N np mds mf a) := by
 intro g M As env σ I H Q c M' R hm k
 unfold nU at hm
 obtain ⟨⟨cs, M1⟩, e1, hm⟩ := Option.bind_eq_some_iff.mp hm
 dsimp only at hm
 split at hm
 ·rename_i hc
  obtain ⟨ss, e2, hm⟩ := Option.bind_eq_some_iff.mp hm
  obtain ⟨⟨d, ds⟩, e3, hm⟩ := Option.bind_eq_some_iff.mp hm
  obtain ⟨M2, e4, hm⟩ := Option.bind_eq_some_iff.mp hm
  obtain ⟨cc, e7, hm⟩ := Option.map_eq_some_iff.mp hm
  cases hm
  unfold yP at e3
  obtain ⟨⟨md, d', ds'⟩, e5, e6⟩ := Option.bind_eq_some_iff.mp e3
  cases md with
  | imm => cases e6
  | new =>
   cases e6
   refine h g M As env σ I H _ cs M1 R e1 fun vs As1 I1 H1 R1 s1 x1 rs => ?_
   rw [List.append_nil]
   refine oK R1 rs hc.1 e2 hc.2 e5 e4 fun v I2 H2 R2 s2 hi hn => ?_
   obtain ⟨p, o, rfl, hA, hp, hI, h0, ro⟩ := hn rfl
   exact k _ _ _ _ (R2.newAt hp hA hI h0 (je e7 ro)) (s1.trans s2) (x1.trans (Ext.app _ _)) (.at (R2.newIx p))
 ·cases hm
theorem hV {x : Str} {N : List Str} {np : Nat} {mf : MS} {mds : List Nat} {e : Expr} {es : List Expr} {a : MAC} {p pos : Pos} (F : FnZ Z x N np mf) (hg : GlZ Z x) (ha : CAV Z (e :: es) a) (hdb : (x == ("__debug__" : Str)) = false := by decide)
  (he : ∀ env, starEach (e :: es) env = (false, eval e env) :: starEach es env := by intro _; rfl) (hpl : ∀ env, (backTo pos (starEach es env)).any (·.1) = false := by intro _; rfl) :
  CEV Z (.Call (.Name x p) (e :: es) [] pos) (dB N np mds mf a) ∧ CEV Z (.Call (.Name x p) (e :: es) [] pos) (nU N np mds mf a) := by
 obtain ⟨f, fd, ps, h1, h2, h3, h4⟩ := F.ex
 obtain ⟨t, a1, a2⟩ := ha
 have pe : ∀ X, InF Z X → PE X (.Call (.Name x p) (e :: es) [] pos) (tCall (spM Z.K Z.cl N np mf) [] E0 t) := fun X i =>
  FnG.pe (CX := CX0) (k := Z.k) (f := f) (fd := fd) (ps := ps) (E := E0) (sp := spM Z.K Z.cl N np mf) (by rw [i.prog, i.w, i.K, i.mg, i.base]; exact h1) i.room i.gd (eL i hg) (by rw [i.mg]; exact h2) (by rw [i.K]; exact h3) (by rw [i.K]; exact h4) pass0 (a1 X i) hdb (he _) (hpl _)
 exact ⟨⟨_, pe, ux a2⟩, ⟨_, pe, vm a2⟩⟩
end
end Q
namespace Q
open PySem L2
def C9 (K : PySem.W.Frag) (cl : String → Option Addr) (g : CG) (I : Hp) (As : List Addr) (Q : VK) : FlC → Prop
 | .nx M' env' => ∀ (σ' : St) (As' : List Addr) (I' H' : Hp), CR K cl g M' As' env' σ' I' H' → Same I I' → Ext As As' → Q .non H'
 | .ret c M' env' => ∀ (σ' : St) (As' : List Addr) (I' H' : Hp) (v : V), CR K cl g M' As' env' σ' I' H' → Same I I' → Ext As As' → cM K cl I' As' c v → Q v H'
 | _ => False
def spC (K : PySem.W.Frag) (cl : String → Option Addr) (N : List Str) (np : Nat) (m : MSC) : Sp := fun vs H Q _ => vs.length = np ∧
 ∃ (g : CG) (M : Mem) (As : List Addr) (env : aD) (I : Hp) (fl : FlC), CR K cl g M As env (start N vs) I H ∧ m M env = some fl ∧ C9 K cl g I As Q fl
abbrev W0 : WX := fun _ _ _ _ => False
theorem qF {X : Cx} : Takes X W0 := fun u s' ⟨_, _, _, _, _, _, _, _, _, _, _, _, _, _, _, _, w⟩ => w.elim
theorem yA {P : Program} {w : World} {K : PySem.W.Frag} {mg : Str → Option Value} {base : Heap} {cl : String → Option Addr} {x qual : Str} {st : Stmt} {f : Addr} {fd : FuncData} {N ps : List Str} {k : Nat} {m : MSC} {me : Option (Addr × Addr)}
  (F : Fun K x qual st f fd) (S : FnScope N ps (defScope st)) (hb : CBV ⟨P, w, K, mg, base, N, defScope st, k, cl, true, me⟩ (defBody st) m) (hme : ∀ c P, me = some (c, P) → fd.code = .ref c ∧ GxR.TabB base mg c P ∧ a9 cl P := by intro _ _ h; cases h) : FnG P w K mg base CX0 (k + 1) f fd ps (spC K cl N ps.length m) := by
 refine lY F S (fun h => h.1) (fun cdv A outer s H vs Q E hcd hr hgd h => ?_)
 obtain ⟨t, b1, b2⟩ := hb
 obtain ⟨hl, g, M, As, env, I, fl, R, hm, k'⟩ := h
 refine ⟨t W0, (b1 _ W0 ⟨rfl, rfl, rfl, rfl, rfl, rfl, rfl, rfl, hr, S.nd, fun _ _ => rfl, PassesOwn.never, hgd, fun c P e => let ⟨h1, h2⟩ := hme c P e; ⟨hcd.symm.trans h1, h2⟩⟩ qF).nox, ?_⟩
 refine b2 W0 g M As env (start N vs) I H _ fl R hm ?_
 cases fl with
 | nx M' e => exact fun σ' As' I' H' R' s x => k' σ' As' I' H' R' s x
 | bk M' e => exact k'.elim
 | ct M' e => exact k'.elim
 | ret c M' e => exact fun σ' As' I' H' v R' s x r => k' σ' As' I' H' v R' s x r
 | exc c ks cs M' e => exact k'.elim
section
variable {K : PySem.W.Frag} {cl : String → Option Addr} {g : CG} {M : Mem} {As : List Addr} {env : aD} {σ : St} {I H : Hp}
theorem qw {N : List Str} {cs : List aw} {vs : List V} (R : CR K cl g M As env σ I H) (r : bo K cl I As cs vs) :
  ∃ g', CR K cl g' M As (cs.map some ++ List.replicate (N.length - cs.length) none) (start N vs) I H ∧
   ∀ (M2 : Mem) (As2 : List Addr) (cenv : aD) (σc : St) (I2 H2 : Hp), CR K cl g' M2 As2 cenv σc I2 H2 → Ext As As2 → CR K cl g M2 As2 env σ I2 H2 ∧ Same I I2 := by
 classical
 let H0 : Hp := fun a => if ∃ (j : Nat) (c : Cell), M[j]? = some c ∧ As[j]? = some a ∧ c.mut = true then none else H a
 have hv := r.length
 have z0 : ∀ a, (∀ (j : Nat) (c : Cell), M[j]? = some c → As[j]? = some a → c.mut = true → False) → H0 a = H a := fun a h => by
  show (if _ then _ else _) = _
  rw [if_neg]
  rintro ⟨j, c, h1, h2, h3⟩
  exact h j c h1 h2 h3
 have z1 : ∀ a o, H0 a = some o → H a = some o := fun a o h => by
  change (if _ then _ else _) = _ at h
  split at h
  ·cases h
  ·exact h
 have zt : ∀ a, a9 cl a → H0 a = H a := fun a ht => z0 a fun j c h1 h2 h3 => by
  obtain ⟨_, o, h4, h5⟩ := R.me j c a h1 h2 (Cell.mut_alive h3)
  obtain ⟨_, ⟨ps, h6, _⟩, _⟩ := R.tb a ht
  rw [h4] at h6
  exact h5.notTab (Option.some.inj h6)
 have zg : ∀ a o, g.H0 a = some o → H0 a = H a := fun a o h => z0 a fun j c h1 h2 h3 => by
  have := R.mu j c a h1 h2 h3
  rw [this] at h; cases h
 refine ⟨⟨I, H0⟩, ⟨R.sub, Same.refl _, fun a o h _ => z1 a o h, fun a o _ h => h, ?_, fun i c h => ?_, R.ml, R.nd, R.al, R.me, fun j c a h1 h2 h3 => ?_, fun a ht => ?_⟩, fun M2 As2 cenv σc I2 H2 R' x => ⟨⟨R'.sub, R.i0.trans R'.i0, fun a o h n => ?_, fun a o h e0 => ?_, R.len, fun i c h => ?_, R'.ml, R'.nd, R'.al, R'.me, fun j c a h1 h2 h3 => ?_, fun a ht => ?_⟩, R'.i0⟩⟩
 ·unfold L2.start
  rw [List.length_append, List.length_append, List.length_replicate, List.length_replicate, List.length_map, List.length_map]; omega
 ·by_cases hi : i < cs.length
  ·rw [List.getElem?_append_left (by rw [List.length_map]; exact hi), List.getElem?_map] at h
   obtain ⟨c', h1, h2⟩ := Option.map_eq_some_iff.mp h
   cases h2
   exact r.startGet h1
  ·rw [List.getElem?_append_right (by rw [List.length_map]; omega), List.getElem?_replicate] at h
   split at h <;> cases h
 ·show (if _ then _ else _) = _
  rw [if_pos ⟨j, c, h1, h2, h3⟩]
 ·obtain ⟨t1, t2, t3⟩ := R.tb a ht
  refine ⟨t1, t2, ?_⟩
  obtain ⟨ps, h, _⟩ := t2
  exact ⟨_, by show H0 a = _; rw [zt a ht]; exact h⟩
 ·exact R'.h0 a o (by show H0 a = _; rw [zg a o h]; exact R.h0 a o h n) n
 ·by_cases ht : a9 cl a
  ·obtain ⟨t1, ⟨ps, h2, _⟩, _⟩ := R.tb a ht
   exact R'.hi a _ (by show H0 a = _; rw [zt a ht]; exact h2) t1
  ·exact R'.hi a o (by show H0 a = _; rw [zg a o h]; exact R.h0 a o h ht) (R.hi a o h e0)
 ·obtain ⟨v, h1, h2⟩ := R.at_ i c h; exact ⟨v, h1, h2.mono R'.i0 x⟩
 ·have hz := R'.mu j c a h1 h2 h3
  cases e : g.H0 a with
  | none => rfl
  | some o =>
   by_cases ht : a9 cl a
   ·obtain ⟨_, ⟨ps, h6, _⟩, _⟩ := R.tb a ht
    change H0 a = none at hz
    rw [zt a ht, h6] at hz; cases hz
   ·change H0 a = none at hz
    rw [zg a o e, R.h0 a o e ht] at hz; cases hz
 ·obtain ⟨t1, t2, _⟩ := R'.tb a ht
  exact ⟨t1, t2, (R.tb a ht).2.2⟩
end
def BP : FlC → Option (aw × Mem)
 | .nx M _ => some (.fix .non, M)
 | .ret c M _ => some (c, M)
 | _ => none
def fv (N : List Str) (mf : MSC) (M : Mem) (cs : List aw) : Option (aw × Mem) := (mf M (cs.map some ++ List.replicate (N.length - cs.length) none)).bind BP
theorem tY {Z : Zc} {g : CG} {M M2 : Mem} {As : List Addr} {env : aD} {σ : St} {I H : Hp} {N : List Str} {np : Nat} {mf : MSC} {cs : List aw} {vs : List V} {c : aw} {Q : VK} {E : XK}
  (R : CR Z.K Z.cl g M As env σ I H) (r : bo Z.K Z.cl I As cs vs) (hnp : cs.length = np) (hr : fv N mf M cs = some (c, M2))
  (k : ∀ v As' I' H', CR Z.K Z.cl g M2 As' env σ I' H' → Same I I' → Ext As As' → cM Z.K Z.cl I' As' c v → Q v H') : spC Z.K Z.cl N np mf vs H Q E := by
 obtain ⟨g', Rc, hb⟩ := qw (N := N) R r
 unfold fv at hr
 obtain ⟨fl, e1, e2⟩ := Option.bind_eq_some_iff.mp hr
 refine ⟨by rw [← r.length]; exact hnp, g', M, As, _, I, fl, Rc, e1, ?_⟩
 cases fl with
 | nx M' e =>
  cases e2
  exact fun σ' As' I' H' R' s x => let ⟨h1, h2⟩ := hb _ _ _ _ _ _ R' x; k _ As' I' H' h1 h2 x (.fix .non)
 | ret c' M' e =>
  cases e2
  exact fun σ' As' I' H' v R' s x rv => let ⟨h1, h2⟩ := hb _ _ _ _ _ _ R' x; k v As' I' H' h1 h2 x rv
 | bk M' e => cases e2
 | ct M' e => cases e2
 | exc a b d M' e => cases e2
structure uh (Z : Zc) (x : Str) (N : List Str) (np : Nat) (mf : MSC) : Prop where
 ex : ∃ (f : Addr) (fd : FuncData) (ps : List Str), FnG Z.P Z.w Z.K Z.mg Z.base CX0 Z.k f fd ps (spC Z.K Z.cl N np mf) ∧ Z.mg x = some (.ref f) ∧ PySem.W.keepIn Z.K (.ref f) = true ∧ Binds Z.K fd ps []
structure yk (Z : Zc) (c : String) (m : Str) (N : List Str) (np : Nat) (mf : MSC) : Prop where
 ex : ∃ (C f : Addr) (fd : FuncData) (ps : List Str), Z.cl c = some C ∧ Cls Z.K C ∧ Meth Z.K C m f ∧ FnG Z.P Z.w Z.K Z.mg Z.base CX0 Z.k f fd ps (spC Z.K Z.cl N np mf) ∧ Binds Z.K fd ps []
structure yl (Z : Zc) (x : Str) (c : String) (N : List Str) (np : Nat) (mf : MSC) : Prop where
 ex : ∃ (k : Nat) (C f : Addr) (fd : FuncData) (ps : List Str), k + 1 ≤ Z.k ∧ Z.cl c = some C ∧ Z.mg x = some (.ref C) ∧ Mk Z.K C f ∧ FnG Z.P Z.w Z.K Z.mg Z.base CX0 k f fd ps (spC Z.K Z.cl N np mf) ∧ Binds Z.K fd ps []
section
variable {Z : Zc}
def f9 (N : List Str) (np : Nat) (mf : MSC) (a : MAC) : MEC := fun M env => (a M env).bind fun p => if p.1.length = np then fv N mf p.2 p.1 else none
theorem j0 {x : Str} {N : List Str} {np : Nat} {mf : MSC} {e : Expr} {es : List Expr} {a : MAC} {p pos : Pos} (F : uh Z x N np mf) (hg : GlZ Z x) (ha : CAV Z (e :: es) a) (hdb : (x == ("__debug__" : Str)) = false := by decide)
  (he : ∀ env, starEach (e :: es) env = (false, eval e env) :: starEach es env := by intro _; rfl) (hpl : ∀ env, (backTo pos (starEach es env)).any (·.1) = false := by intro _; rfl) : CEV Z (.Call (.Name x p) (e :: es) [] pos) (f9 N np mf a) := by
 obtain ⟨f, fd, ps, h1, h2, h3, h4⟩ := F.ex
 obtain ⟨t, a1, a2⟩ := ha
 refine ⟨tCall (spC Z.K Z.cl N np mf) [] E0 t, fun X i => FnG.pe (CX := CX0) (k := Z.k) (f := f) (fd := fd) (ps := ps) (E := E0) (sp := spC Z.K Z.cl N np mf) (by rw [i.prog, i.w, i.K, i.mg, i.base]; exact h1) i.room i.gd (eL i hg) (by rw [i.mg]; exact h2) (by rw [i.K]; exact h3) (by rw [i.K]; exact h4) pass0 (a1 X i) hdb (he _) (hpl _), fun g M As env σ I H Q c M' R hm k => ?_⟩
 unfold f9 at hm
 obtain ⟨⟨cs, M1⟩, e1, hm⟩ := Option.bind_eq_some_iff.mp hm
 dsimp only at hm
 split at hm
 ·rename_i hnp
  refine a2 g M As env σ I H _ cs M1 R e1 fun vs As1 I1 H1 R1 s1 x1 rs => ?_
  rw [List.append_nil]
  exact tY R1 rs hnp hm fun v As2 I2 H2 R2 s2 x2 rv => k v As2 I2 H2 R2 (s1.trans s2) (x1.trans x2) rv
 ·cases hm
end
structure oz (c : Pc) (k : Nat) (x : Str) (N : List Str) (np : Nat) (mf : MSC) : Prop where
 ex : ∃ (f : Addr) (fd : FuncData) (ps : List Str), FnG c.P c.w c.K c.mg c.base CX0 k f fd ps (spC c.K c.cl N np mf) ∧ c.mg x = some (.ref f) ∧ PySem.W.keepIn c.K (.ref f) = true ∧ Binds c.K fd ps []
structure rP (c : Pc) (k : Nat) (cn : String) (m : Str) (N : List Str) (np : Nat) (mf : MSC) : Prop where
 ex : ∃ (C f : Addr) (fd : FuncData) (ps : List Str), c.cl cn = some C ∧ Cls c.K C ∧ Meth c.K C m f ∧ FnG c.P c.w c.K c.mg c.base CX0 k f fd ps (spC c.K c.cl N np mf) ∧ Binds c.K fd ps []
structure rC (c : Pc) (k : Nat) (x : Str) (cn : String) (N : List Str) (np : Nat) (mf : MSC) : Prop where
 ex : ∃ (C f : Addr) (fd : FuncData) (ps : List Str), c.cl cn = some C ∧ c.mg x = some (.ref C) ∧ Mk c.K C f ∧ FnG c.P c.w c.K c.mg c.base CX0 k f fd ps (spC c.K c.cl N np mf) ∧ Binds c.K fd ps []
section
variable {c : Pc} {j k np : Nat} {x m : Str} {cn : String} {N M : List Str} {mf : MSC} {sc s1 : Scope} {me : Option (Addr × Addr)}
theorem oz.z (F : oz c j x M np mf) (h : j ≤ k) : uh (c.z k N sc me) x M np mf := let ⟨f, fd, ps, h1, h2⟩ := F.ex; ⟨f, fd, ps, h1.mono h, h2⟩
theorem oz.zb (F : oz c j x M np mf) (h : j ≤ k) : uh (ZB (c.z k N sc me) s1) x M np mf := let ⟨f, fd, ps, h1, h2⟩ := F.ex; ⟨f, fd, ps, h1.mono h, h2⟩
theorem rP.z (F : rP c j cn m M np mf) (h : j ≤ k) : yk (c.z k N sc me) cn m M np mf := let ⟨C, f, fd, ps, q1, q2, q3, h1, h2⟩ := F.ex; ⟨C, f, fd, ps, q1, q2, q3, h1.mono h, h2⟩
theorem rP.zb (F : rP c j cn m M np mf) (h : j ≤ k) : yk (ZB (c.z k N sc me) s1) cn m M np mf := let ⟨C, f, fd, ps, q1, q2, q3, h1, h2⟩ := F.ex; ⟨C, f, fd, ps, q1, q2, q3, h1.mono h, h2⟩
theorem rC.z (F : rC c j x cn M np mf) (h : j + 1 ≤ k) : yl (c.z k N sc me) x cn M np mf := let ⟨C, f, fd, ps, q1, q2, q3, h1, h2⟩ := F.ex; ⟨j, C, f, fd, ps, h, q1, q2, q3, h1, h2⟩
theorem rC.zb (F : rC c j x cn M np mf) (h : j + 1 ≤ k) : yl (ZB (c.z k N sc me) s1) x cn M np mf := let ⟨C, f, fd, ps, q1, q2, q3, h1, h2⟩ := F.ex; ⟨j, C, f, fd, ps, h, q1, q2, q3, h1, h2⟩
end
theorem s9 {K : PySem.W.Frag} {cl : String → Option Addr} {N : List Str} {m : MSC} {a : Addr} {ns : List Int} {H : Hp} {Q : VK} {E : XK} {M' : Mem} {env' : aD} (hT : ∀ b, a9 cl b → GxR.TabG H b) (hS0 : ∃ J, Same J H ∧ (∀ b, a9 cl b → J b = none) ∧ SqL K J a (ns.map V.int))
  (hm : m [] (some (.fix (.scr (ns.map D.int))) :: List.replicate (N.length - 1) none) = some (.ret (.fix (.bl true)) M' env')) (hQ : ∀ H', Q (.bl true) H') : spC K cl N 1 m [.ref a] H Q E := by
 obtain ⟨J, hJ, hJt, hS⟩ := hS0
 have rs : ∀ (l : List Int), aI K cl J (l.map D.int) (l.map V.int) := fun l => by
  induction l with
  | nil => exact .nil
  | cons x l ih => exact .cons .int ih
 refine ⟨rfl, ⟨J, H⟩, [], [], _, J, _, ⟨hJ, Same.refl _, fun a o h _ => h, fun a o _ h => h, ?_, fun i s h => ?_, rfl, List.nodup_nil, (fun a h => nomatch h), (fun j c a h => by simp at h), (fun j c a h => by simp at h), fun b hb => ⟨hJt b hb, hT b hb, let ⟨ps, h, _⟩ := hT b hb; ⟨_, h⟩⟩⟩, hm, fun σ' As' I' H' v R' s x r => ?_⟩
 ·unfold L2.start; simp
 ·cases i with
  | zero =>
   simp at h
   subst h
   exact ⟨.ref a, rfl, .fix (.scr hS (rs ns))⟩
  | succ i =>
   rw [List.getElem?_cons_succ, List.getElem?_replicate] at h
   split at h <;> cases h
 ·cases r.fix_inv.bl_inv
  exact hQ H'
end Q
namespace Q
open PySem PySem.Spec PyProof.Rows L2
structure yI (Z : Zc) (x : Str) (N : List Str) (np : Nat) (mf : MS) (dd : List D) : Prop where
 ex : ∃ (f : Addr) (fd : FuncData) (ps : List Str) (dvs : List V) (ds : List Value), FnG Z.P Z.w Z.K Z.mg Z.base CX0 Z.k f fd ps (spM Z.K Z.cl N np mf) ∧ Z.mg x = some (.ref f) ∧ PySem.W.keepIn Z.K (.ref f) = true ∧ Binds Z.K fd ps ds ∧ Vals dvs ds ∧ ∀ I, aI Z.K Z.cl I dd dvs
structure rB (c : Pc) (k : Nat) (x : Str) (N : List Str) (np : Nat) (mf : MS) (dd : List D) : Prop where
 ex : ∃ (f : Addr) (fd : FuncData) (ps : List Str) (dvs : List V) (ds : List Value), FnG c.P c.w c.K c.mg c.base CX0 k f fd ps (spM c.K c.cl N np mf) ∧ c.mg x = some (.ref f) ∧ PySem.W.keepIn c.K (.ref f) = true ∧ Binds c.K fd ps ds ∧ Vals dvs ds ∧ ∀ I, aI c.K c.cl I dd dvs
theorem rB.z {c : Pc} {j k np : Nat} {x : Str} {N M : List Str} {mf : MS} {sc : Scope} {me : Option (Addr × Addr)} {dd : List D} (F : rB c j x M np mf dd) (h : j ≤ k) : yI (c.z k N sc me) x M np mf dd := let ⟨f, fd, ps, dvs, ds, h1, h2⟩ := F.ex; ⟨f, fd, ps, dvs, ds, h1.mono h, h2⟩
theorem rB.zb {c : Pc} {j k np : Nat} {x : Str} {N M : List Str} {mf : MS} {sc s1 : Scope} {me : Option (Addr × Addr)} {dd : List D} (F : rB c j x M np mf dd) (h : j ≤ k) : yI (ZB (c.z k N sc me) s1) x M np mf dd := let ⟨f, fd, ps, dvs, ds, h1, h2⟩ := F.ex; ⟨f, fd, ps, dvs, ds, h1.mono h, h2⟩
section
variable {Z : Zc}
theorem cX.app {I : Hp} {σ : L2.St} : ∀ {as bs : List Ag} {vs us : List V}, cX Z I σ as vs → cX Z I σ bs us → cX Z I σ (as ++ bs) (vs ++ us)
 | _, _, _, _, .nil, s => s
 | _, _, _, _, .cons r t, s => .cons r (cX.app t s)
end
end Q
namespace Q
open PySem L2
end Q
namespace Q
open PySem PySem.Spec PyProof.Rows L2
end Q
namespace Q
open PySem PySem.Spec PyProof.Rows L2
section
variable {X : Cx} {CX : CXT} {k : Nat} {f C : Addr} {fd : FuncData} {ps : List Str} {sp : Sp} {x m : Str} {p pos apos : Pos} {e o : Expr} {es : List Expr} {ta : TE} {t : TA}
 {pins : List (Addr × Obj)} {σ : L2.St} {H : Hp} {s : Shared} {Q : VK} {us : List Value} {vs : List V} {E : L2.St → XK}
theorem FnG.runsS {E : XK} (F : FnG X.prog X.w X.K X.mg X.base CX k f fd ps sp) (hr : Room k X.A) (g : cR X.A) (hb : Binds X.K fd ps []) (hx : PassesAt CX X σ E) (I : Inv X pins σ H s) (r : Vals vs us)
  (h : sp vs H Q E) : wpAny (model X.prog X.w) X.A (call (.ref f) us) (EP X pins σ Q) X.xe s :=
 wpAny_call (codeAny_mono (F.go hr g I.env0 (binds0 hb I (r.length.symm.trans (F.ar h))) r h) fun a b q => match a, q with
  | .error e, q => hx pins H s e b I q
  | .ok (.ret u), q => I.after q
  | .ok .next, q => q.elim
  | .ok .brk, q => q.elim
  | .ok .cont, q => q.elim)
theorem FnG.peS (F : FnG X.prog X.w X.K X.mg X.base CX k f fd ps sp) (hr : Room k X.A) (g : cR X.A) (hg : Gl X x) (hm : X.mg x = some (.ref f)) (hk : PySem.W.keepIn X.K (.ref f) = true) (hb : Binds X.K fd ps [])
  (hx : ∀ σ, PassesAt CX X σ (E σ)) (ha : PA X (e :: es) t) (hdb : (x == ("__debug__" : Str)) = false) (he : starEach (e :: es) X.env = (false, eval e X.env) :: starEach es X.env)
  (hpl : (backTo pos (starEach es X.env)).any (·.1) = false) : PE X (.Call (.Name x p) (e :: es) [] pos) (fun σ H Q => t σ H fun vs H1 => sp vs H1 Q (E σ)) :=
 ⟨fun pins s σ H Q I h => wpAny_Call_Name_kw (ld_glob I hg hm (PySem.W.callWith_K (h₀ := X.base) I.ok.mod.kin hk (thn (ha.run pos pins s σ H _ I h) fun us s1 ⟨vs, H1, I1, r, q⟩ =>
  ⟨I1.kIn, F.runsS hr g hb (hx σ) I1 r q⟩) he hpl) hdb)⟩
end
def Dv (K : PySem.W.Frag) (cl : String → Option Addr) (g : CG) (I : Hp) (As : List Addr) (Q : VK) (E : XK) : FlC → Prop
 | .nx M' env' => ∀ (σ' : L2.St) (As' : List Addr) (I' H' : Hp), CR K cl g M' As' env' σ' I' H' → Same I I' → Ext As As' → Q .non H'
 | .ret c M' env' => ∀ (σ' : L2.St) (As' : List Addr) (I' H' : Hp) (v : V), CR K cl g M' As' env' σ' I' H' → Same I I' → Ext As As' → cM K cl I' As' c v → Q v H'
 | .exc c ks cs M' env' => ∀ (σ' : L2.St) (As' : List Addr) (I' H' : Hp) (C d : Addr) (vs : List V), CR K cl g M' As' env' σ' I' H' → Same I I' → Ext As As' → cl c = some C → bo K cl I' As' cs vs → ks.length = cs.length → H' d = some (.xd (ks.zip vs)) → E (.ref C) (some d) H'
 | _ => False
def jm (K : PySem.W.Frag) (cl : String → Option Addr) (N : List Str) (np : Nat) (m : MSC) : Sp := fun vs H Q E => vs.length = np ∧
 ∃ (g : CG) (M : Mem) (As : List Addr) (env : aD) (I : Hp) (fl : FlC), CR K cl g M As env (start N vs) I H ∧ m M env = some fl ∧ Dv K cl g I As Q E fl
theorem xw {P : Program} {w : World} {K : PySem.W.Frag} {mg : Str → Option Value} {base : Heap} {cl : String → Option Addr} {x qual : Str} {st : Stmt} {f : Addr} {fd : FuncData} {N ps : List Str} {k : Nat} {m : MSC} {me : Option (Addr × Addr)}
  (F : Fun K x qual st f fd) (S : FnScope N ps (defScope st)) (hb : CBV ⟨P, w, K, mg, base, N, defScope st, k, cl, true, me⟩ (defBody st) m) (hme : ∀ c P, me = some (c, P) → fd.code = .ref c ∧ GxR.TabB base mg c P ∧ a9 cl P := by intro _ _ h; cases h) : FnG P w K mg base (L2.CX P w) (k + 1) f fd ps (jm K cl N ps.length m) := by
 refine lY F S (fun h => h.1) (fun cdv A outer s H vs Q E hcd hr hgd h => ?_)
 obtain ⟨t, b1, b2⟩ := hb
 obtain ⟨hl, g, M, As, env, I, fl, R, hm, k'⟩ := h
 let W : WX := fun cls d _ H => E cls d H
 refine ⟨t W, b1 _ W ⟨rfl, rfl, rfl, rfl, rfl, rfl, rfl, rfl, hr, S.nd, fun _ _ => rfl, passes_of rfl, hgd, fun c P e => let ⟨h1, h2⟩ := hme c P e; ⟨hcd.symm.trans h1, h2⟩⟩ (takes_of rfl rfl rfl rfl), ?_⟩
 refine b2 W g M As env (start N vs) I H _ fl R hm ?_
 cases fl with
 | nx M' e => exact fun σ' As' I' H' R' s x => k' σ' As' I' H' R' s x
 | bk M' e => exact k'.elim
 | ct M' e => exact k'.elim
 | ret c M' e => exact fun σ' As' I' H' v R' s x r => k' σ' As' I' H' v R' s x r
 | exc c ks cs M' e => exact fun σ' As' I' H' C d vs R' s x hC r hk hd => k' σ' As' I' H' C d vs R' s x hC r hk hd
abbrev Rx := (aw × Mem) ⊕ (String × List Str × List aw × Mem)
abbrev MXC := Mem → aD → Option Rx
def nu (Z : Zc) (g : CG) (I : Hp) (As : List Addr) (env : aD) (σ : L2.St) (W : WX) (Q : VK) : Rx → Prop
 | .inl (c, M') => ∀ v As' I' H', CR Z.K Z.cl g M' As' env σ I' H' → Same I I' → Ext As As' → cM Z.K Z.cl I' As' c v → Q v H'
 | .inr (c, ks, cs, M') => ∀ As' I' H' C d vs, CR Z.K Z.cl g M' As' env σ I' H' → Same I I' → Ext As As' → Z.cl c = some C → bo Z.K Z.cl I' As' cs vs → ks.length = cs.length → H' d = some (.xd (ks.zip vs)) → W (.ref C) (some d) σ H'
def SXC (Z : Zc) (W : WX) (t : TE) (m : MXC) : Prop := ∀ (g : CG) (M : Mem) (As : List Addr) (env : aD) (σ : L2.St) (I H : Hp) (Q : VK) (r : Rx), CR Z.K Z.cl g M As env σ I H → m M env = some r → nu Z g I As env σ W Q r → t σ H Q
def CEX (Z : Zc) (e : Expr) (m : MXC) : Prop := ∃ t : WX → TE, (∀ X W, InF Z X → Takes X W → PE X e (t W)) ∧ ∀ W, SXC Z W (t W) m
theorem nu.mono {Z : Zc} {g : CG} {I I' : Hp} {As As' : List Addr} {env : aD} {σ : L2.St} {W : WX} {Q : VK} {r : Rx} (s : Same I I') (x : Ext As As') (h : nu Z g I As env σ W Q r) : nu Z g I' As' env σ W Q r := by
 match r with
 | .inl (c, M') => exact fun v A2 J H' R e y => h v A2 J H' R (s.trans e) (x.trans y)
 | .inr (c, ks, cs, M') => exact fun A2 J H' C d vs R e y => h A2 J H' C d vs R (s.trans e) (x.trans y)
section
variable {Z : Zc}
def uO : FlC → Option Rx
 | .nx M _ => some (.inl (.fix .non, M))
 | .ret c M _ => some (.inl (c, M))
 | .exc c ks cs M _ => some (.inr (c, ks, cs, M))
 | _ => none
def km (N : List Str) (mf : MSC) (M : Mem) (cs : List aw) : Option Rx := (mf M (cs.map some ++ List.replicate (N.length - cs.length) none)).bind uO
theorem sD {g : CG} {M : Mem} {As : List Addr} {env : aD} {σ : L2.St} {I H : Hp} {N : List Str} {np : Nat} {mf : MSC} {cs : List aw} {vs : List V} {r : Rx} {Q : VK} {W : WX}
  (R : CR Z.K Z.cl g M As env σ I H) (rs : bo Z.K Z.cl I As cs vs) (hnp : cs.length = np) (hr : km N mf M cs = some r) (k : nu Z g I As env σ W Q r) : jm Z.K Z.cl N np mf vs H Q (WE W σ) := by
 obtain ⟨g', Rc, hb⟩ := qw (N := N) R rs
 unfold km at hr
 obtain ⟨fl, e1, e2⟩ := Option.bind_eq_some_iff.mp hr
 refine ⟨by rw [← rs.length]; exact hnp, g', M, As, _, I, fl, Rc, e1, ?_⟩
 cases fl with
 | nx M' e =>
  cases e2
  exact fun σ' As' I' H' R' s x => let ⟨h1, h2⟩ := hb _ _ _ _ _ _ R' x; k _ As' I' H' h1 h2 x (.fix .non)
 | ret c' M' e =>
  cases e2
  exact fun σ' As' I' H' v R' s x rv => let ⟨h1, h2⟩ := hb _ _ _ _ _ _ R' x; k v As' I' H' h1 h2 x rv
 | exc c ks ds M' e =>
  cases e2
  exact fun σ' As' I' H' C d us R' s x hC ru hk hd => let ⟨h1, h2⟩ := hb _ _ _ _ _ _ R' x; k As' I' H' C d us h1 h2 x hC ru hk hd
 | bk M' e => cases e2
 | ct M' e => cases e2
structure y4 (Z : Zc) (x : Str) (N : List Str) (np : Nat) (mf : MSC) : Prop where
 ex : ∃ (f : Addr) (fd : FuncData) (ps : List Str), FnG Z.P Z.w Z.K Z.mg Z.base (L2.CX Z.P Z.w) Z.k f fd ps (jm Z.K Z.cl N np mf) ∧ Z.mg x = some (.ref f) ∧ PySem.W.keepIn Z.K (.ref f) = true ∧ Binds Z.K fd ps []
structure Cd (Z : Zc) (c : String) (m : Str) (N : List Str) (np : Nat) (mf : MSC) : Prop where
 ex : ∃ (C f : Addr) (fd : FuncData) (ps : List Str), Z.cl c = some C ∧ Cls Z.K C ∧ Meth Z.K C m f ∧ FnG Z.P Z.w Z.K Z.mg Z.base (L2.CX Z.P Z.w) Z.k f fd ps (jm Z.K Z.cl N np mf) ∧ Binds Z.K fd ps []
def nv (N : List Str) (np : Nat) (mf : MSC) (a : MAC) : MXC := fun M env => (a M env).bind fun p => if p.1.length = np then km N mf p.2 p.1 else none
theorem uY {x : Str} {N : List Str} {np : Nat} {mf : MSC} {e : Expr} {es : List Expr} {a : MAC} {p pos : Pos} (F : y4 Z x N np mf) (hg : GlZ Z x) (ha : CAV Z (e :: es) a) (hdb : (x == ("__debug__" : Str)) = false := by decide)
  (he : ∀ env, starEach (e :: es) env = (false, eval e env) :: starEach es env := by intro _; rfl) (hpl : ∀ env, (backTo pos (starEach es env)).any (·.1) = false := by intro _; rfl) : CEX Z (.Call (.Name x p) (e :: es) [] pos) (nv N np mf a) := by
 obtain ⟨f, fd, ps, h1, h2, h3, h4⟩ := F.ex
 obtain ⟨t, a1, a2⟩ := ha
 refine ⟨fun W σ H Q => t σ H fun vs H1 => jm Z.K Z.cl N np mf vs H1 Q (WE W σ), fun X W i tk => FnG.peS (CX := L2.CX X.prog X.w) (k := Z.k) (f := f) (fd := fd) (ps := ps) (E := WE W) (sp := jm Z.K Z.cl N np mf) (by rw [i.prog, i.w, i.K, i.mg, i.base]; exact h1) i.room i.gd (eL i hg) (by rw [i.mg]; exact h2) (by rw [i.K]; exact h3) (by rw [i.K]; exact h4) (passAt tk) (a1 X i) hdb (he _) (hpl _), fun W g M As env σ I H Q r R hm k => ?_⟩
 unfold nv at hm
 obtain ⟨⟨cs, M1⟩, e1, hm⟩ := Option.bind_eq_some_iff.mp hm
 dsimp only at hm
 split at hm
 ·rename_i hnp
  exact a2 g M As env σ I H _ cs M1 R e1 fun vs As1 I1 H1 R1 s1 x1 rs => sD R1 rs hnp hm (k.mono s1 x1)
 ·cases hm
def nK (a : MXC) : MSC := fun M env => (a M env).map fun r => match r with
 | .inl p => .nx p.2 env
 | .inr (c, ks, cs, M') => .exc c ks cs M' env
theorem tQ {e : Expr} {m : MXC} {pos : Pos} (h : CEX Z e m) (hs : ∀ env, swapsWith e none pos.line env = pure false := by intro _; rfl) : CSV Z (.Expr e pos) (nK m) := by
 obtain ⟨t, h1, h2⟩ := h
 refine ⟨fun W => tDrop (t W), fun X W i tk => ps_expr (h1 X W i tk) (hs _), fun W g M As env σ I H D fl R hm k => ?_⟩
 unfold nK at hm
 obtain ⟨r, e1, hm⟩ := Option.map_eq_some_iff.mp hm
 subst hm
 refine h2 W g M As env σ I H _ r R e1 ?_
 match r, k with
 | .inl (c, M1), k => exact fun v As1 I1 H1 R1 s1 x1 _ => k σ As1 I1 H1 R1 s1 x1
 | .inr (c, ks, cs, M1), k => exact fun As1 I1 H1 C d vs R1 s1 x1 => k σ As1 I1 H1 C d vs R1 s1 x1
end
end Q
namespace Q
open PySem PySem.Spec PyProof.Rows L2
def CST (Z : Zc) (st : Stmt) (m : MSC) : Prop := ∃ t : WX → TS, (∀ X W, InF Z X → X.stack = X.env :: X.outer → X.env.frame = some X.env.locals → Takes X W → PS X st (t W)) ∧ ∀ W, SSC Z W (t W) m
def CBT (Z : Zc) (sts : List Stmt) (m : MSC) : Prop := ∃ t : WX → TS, (∀ X W, InF Z X → X.stack = X.env :: X.outer → X.env.frame = some X.env.locals → Takes X W → PSs X sts (t W)) ∧ ∀ W, SSC Z W (t W) m
section
variable {Z : Zc}
theorem ze {st : Stmt} {m : MSC} (h : CSV Z st m) : CST Z st m := let ⟨t, h1, h2⟩ := h; ⟨t, fun X W i _ _ tk => h1 X W i tk, h2⟩
theorem wu {s : Stmt} {a : MSC} (ha : CST Z s a) : CBT Z [s] a := by
 obtain ⟨t, h1, h2⟩ := ha
 exact ⟨t, fun X W i p q w => pss_one (h1 X W i p q w), h2⟩
theorem vq {s : Stmt} {r : List Stmt} {a b : MSC} (ha : CST Z s a) (hb : CBT Z r b) : CBT Z (s :: r) (cY a b) := by
 obtain ⟨t, h1, h2⟩ := ha
 obtain ⟨u, r1, r2⟩ := hb
 refine ⟨fun W => tSeq (t W) (u W), fun X W i p q w => pss_cons (h1 X W i p q w) (r1 X W i p q w), fun W g M As env σ I H D fl R hm k => ?_⟩
 unfold cY at hm
 obtain ⟨f1, e1, hm⟩ := Option.bind_eq_some_iff.mp hm
 refine h2 W g M As env σ I H _ f1 R e1 ?_
 cases f1 with
 | nx M1 e => exact fun σ' As' I' H' R' s' x' => r2 W g M1 As' e σ' I' H' D fl R' hm (k.mono s' x')
 | bk M1 e => cases hm; exact k
 | ct M1 e => cases hm; exact k
 | ret c M1 e => cases hm; exact k
 | exc c ks cs M1 e => cases hm; exact k
end
theorem xr {P : Program} {w : World} {K : PySem.W.Frag} {mg : Str → Option Value} {base : Heap} {cl : String → Option Addr} {x qual : Str} {st : Stmt} {f : Addr} {fd : FuncData} {N ps : List Str} {k : Nat} {m : MSC} {me : Option (Addr × Addr)}
  (F : Fun K x qual st f fd) (S : FnScope N ps (defScope st)) (hb : CBT ⟨P, w, K, mg, base, N, defScope st, k, cl, true, me⟩ (defBody st) m) (hme : ∀ c P, me = some (c, P) → fd.code = .ref c ∧ GxR.TabB base mg c P ∧ a9 cl P := by intro _ _ h; cases h) : FnG P w K mg base CX0 (k + 1) f fd ps (spC K cl N ps.length m) := by
 refine lY F S (fun h => h.1) (fun cdv A outer s H vs Q E hcd hr hgd h => ?_)
 obtain ⟨t, b1, b2⟩ := hb
 obtain ⟨hl, g, M, As, env, I, fl, R, hm, k'⟩ := h
 refine ⟨t W0, (b1 _ W0 ⟨rfl, rfl, rfl, rfl, rfl, rfl, rfl, rfl, hr, S.nd, fun _ _ => rfl, PassesOwn.never, hgd, fun c P e => let ⟨h1, h2⟩ := hme c P e; ⟨hcd.symm.trans h1, h2⟩⟩ rfl rfl qF).nox, ?_⟩
 refine b2 W0 g M As env (start N vs) I H _ fl R hm ?_
 cases fl with
 | nx M' e => exact fun σ' As' I' H' R' s x => k' σ' As' I' H' R' s x
 | bk M' e => exact k'.elim
 | ct M' e => exact k'.elim
 | ret c M' e => exact fun σ' As' I' H' v R' s x r => k' σ' As' I' H' v R' s x r
 | exc c ks cs M' e => exact k'.elim
end Q
namespace Q
open PySem PySem.Spec PyProof.Rows L2
def CSA (Z : Zc) (i : Nat) (sts : List Stmt) (ms : String → List Str → List aw → MSC) : Prop := ∃ ts : Addr → Value → Option Addr → TS,
 (∀ (X : Cx) (a : Addr) (oe : Obj) (cls : Value) (d : Option Addr) (pn : List (Addr × Obj)), InF Z X → L2.Zc cls d oe → (∃ vs, oe.data = .fields vs) → PSs (X.suite a ((a, oe) :: pn)) sts (ts a cls d)) ∧
 ∀ (g : CG) (M : Mem) (As : List Addr) (env : aD) (σ : L2.St) (I H : Hp) (D : Ends) (fl : FlC) (a C d : Addr) (c : String) (ks : List Str) (cs : List aw) (vs : List V), CR Z.K Z.cl g M As env σ I H → σ[i]? = some (some (.ref a)) → Z.cl c = some C → bo Z.K Z.cl I As cs vs → ks.length = cs.length → H d = some (.xd (ks.zip vs)) →
  ms c ks cs M env = some fl → mU Z g I As W0 D fl → ts a (.ref C) (some d) D σ H
def CUV (Z : Zc) (i : Nat) (e : Expr) (m : String → List Str → List aw → Option aw) : Prop := ∃ t : Addr → Value → Option Addr → TE,
 (∀ (X : Cx) (a : Addr) (oe : Obj) (cls : Value) (d : Option Addr) (pn : List (Addr × Obj)), InF Z X → L2.Zc cls d oe → (∃ vs, oe.data = .fields vs) → PE (X.suite a ((a, oe) :: pn)) e (t a cls d)) ∧
 ∀ (g : CG) (M : Mem) (As : List Addr) (env : aD) (σ : L2.St) (I H : Hp) (Q : VK) (cv : aw) (a C d : Addr) (c : String) (ks : List Str) (cs : List aw) (vs : List V), CR Z.K Z.cl g M As env σ I H → σ[i]? = some (some (.ref a)) → Z.cl c = some C → bo Z.K Z.cl I As cs vs → ks.length = cs.length → H d = some (.xd (ks.zip vs)) →
  m c ks cs = some cv → (∀ v, cM Z.K Z.cl I As cv v → Q v H) → t a (.ref C) (some d) σ H Q
section
variable {Z : Zc} {i : Nat}
theorem qq {x f : Str} {cn : String} {C0 : Addr} {p pos : Pos} (hN : Z.N[i]? = some x) (hv : Vis Z.sc x) (hC0 : Z.cl cn = some C0) (T : XfC Z.K C0) (hno : PySem.W.findIn Z.K (.ref C0) f = some none)
  (hb : ∀ env, attributeBase (.Name x p) f env (eval (.Name x p) env) = eval (.Name x p) env := by intro _; rfl)
  (hd : (x == ("__debug__" : Str)) = false := by decide) (hcd : (x == ("__classdict__" : Str)) = false := by decide) :
  CUV Z i (.Attribute (.Name x p) f pos) (fun c ks cs => if c = cn then lT ks cs f else none) := by
 refine ⟨fun a cls d => tXf a cls d C0 f (tVar i), fun X a oe cls d pn h hz hf => ?_, fun g M As env σ I H Q cv a C d c ks cs vs R he hC rs hk hd' hm k => ?_⟩
 ·exact pe_xf (by rw [h.K]; exact T) (by rw [h.K]; exact hno) hz hf (pe_var (X := X.suite a ((a, oe) :: pn)) (by show X.N[i]? = _; rw [h.N]; exact hN) (show Vis X.env.scope x from fM (X := X) h hv) hd hcd) (hb _)
 ·dsimp only at hm
  split at hm
  ·rename_i hcn
   subst hcn
   rw [hC0] at hC; cases hC
   obtain ⟨v, l, rv⟩ := oE rs hm
   exact ⟨_, he, rfl, rfl, d, _, v, rfl, hd', l, k v rv⟩
  ·cases hm
def vW (m : String → List Str → List aw → Option aw) : String → List Str → List aw → MSC := fun c ks cs M env => (m c ks cs).map fun v => .ret v M env
theorem xg {e : Expr} {m : String → List Str → List aw → Option aw} {pos : Pos} (h : CUV Z i e m) : CSA Z i [.Return (some e) pos] (vW m) := by
 obtain ⟨t, h1, h2⟩ := h
 refine ⟨fun a cls d => tRet (t a cls d), fun X a oe cls d pn i hz hf => pss_one (ps_ret (h1 X a oe cls d pn i hz hf)), fun g M As env σ I H D fl a C d c ks cs vs R he hC rs hk hd hm k => ?_⟩
 obtain ⟨v, e1, hm⟩ := Option.map_eq_some_iff.mp hm
 subst hm
 exact h2 g M As env σ I H _ v a C d c ks cs vs R he hC rs hk hd e1 fun u ru => k σ As I H u R (Same.refl _) (Ext.refl _) ru
theorem CR.unsetAt {K : PySem.W.Frag} {cl : String → Option Addr} {g : CG} {M : Mem} {As : List Addr} {env : aD} {σ : L2.St} {I H : Hp} (R : CR K cl g M As env σ I H) (j : Nat) (o : Option V) : CR K cl g M As (env.set j none) (σ.set j o) I H :=
 ⟨R.sub, R.i0, R.h0, R.hi, by rw [List.length_set, List.length_set]; exact R.len, fun k c h => by
  rw [List.getElem?_set] at h ⊢
  by_cases e : j = k
  ·rw [if_pos e] at h
   split at h <;> cases h
  ·rw [if_neg e] at h ⊢
   exact R.at_ k c h, R.ml, R.nd, R.al, R.me, R.mu, R.tb⟩
def nG (i : Nat) (sub : String → Option Bool) (mb : MSC) (ms : String → List Str → List aw → MSC) : MSC := fun M env => (mb M env).bind fun fl => match fl with
 | .exc c ks cs M' e => (sub c).bind fun b => if b then if i < e.length then (ms c ks cs M' (e.set i none)).bind fun fl => match fl with
   | .exc _ _ _ _ _ => none
   | .nx M2 e2 => some (.nx M2 (e2.set i none))
   | .bk M2 e2 => some (.bk M2 (e2.set i none))
   | .ct M2 e2 => some (.ct M2 (e2.set i none))
   | .ret v M2 e2 => some (.ret v M2 e2)
  else none else some (.exc c ks cs M' e)
 | fl => some fl
theorem uE {x n : Str} {cv : Value} {body suite : List Stmt} {b₀ : Stmt} {np pos pos' : Pos} {mb : MSC} {ms : String → List Str → List aw → MSC} {sub : String → Option Bool} (hg : GlZ Z x) (hm : Z.mg x = some cv) (hdb : (x == ("__debug__" : Str)) = false)
  (hN : Z.N[i]? = some n) (hln : Z.sc.names.lookup n = some .local)
  (hsub : ∀ c C b, Z.cl c = some C → sub c = some b → PySem.W.exmOne Z.K (.ref C) cv = some b) (hb : CBV Z body mb) (hs : CSA Z i (b₀ :: suite) ms) : CST Z (.Try body [.ExceptHandler (some (.Name x np)) (some n) (b₀ :: suite) pos'] [] [] pos) (nG i sub mb ms) := by
 obtain ⟨tb, b1, b2⟩ := hb
 obtain ⟨ts, s1, s2⟩ := hs
 refine ⟨fun W D σ H => tb (wAs Z.K cv i ts W D) D σ H, fun X W h h1 h2 tk => ?_, fun W g M As env σ I H D fl R hmm k => ?_⟩
 ·rw [← h.K]
  refine ps_try_as h1 h2 h.nd (by rw [h.N]; exact hN) (by show X.env.scope.names.lookup n = _; rw [h.sc]; exact hln) ⟨eL h hg, hdb, .inl (by rw [h.mg]; exact hm)⟩ tk (fun W' pn xe tk' po => b1 (X.tr pn xe) W' ?_ tk') fun a oe cls d pn hz hf => s1 X a oe cls d pn h hz hf
  exact ⟨h.prog, h.w, h.K, h.mg, h.base, h.N, h.sc, h.calm, h.room, h.nd, h.fn, po, h.gd, h.cd⟩
 ·unfold nG at hmm
  obtain ⟨f1, e1, hmm⟩ := Option.bind_eq_some_iff.mp hmm
  refine b2 _ g M As env σ I H D f1 R e1 ?_
  cases f1 with
  | nx M1 e => cases hmm; exact k
  | bk M1 e => cases hmm; exact k
  | ct M1 e => cases hmm; exact k
  | ret c M1 e => cases hmm; exact k
  | exc c ks cs M1 e =>
   obtain ⟨b, e2, hmm⟩ := Option.bind_eq_some_iff.mp hmm
   intro σ' As' I' H' C d vs R' s' x' hC rs hk hd
   refine ⟨b, hsub c C b hC e2, fun hbt a ha => ?_, fun hbf => ?_⟩
   ·subst hbt
    rw [if_pos rfl] at hmm
    split at hmm
    ·rename_i hil
     obtain ⟨f2, e3, hmm⟩ := Option.bind_eq_some_iff.mp hmm
     have hσ : (σ'.set i (some (.ref a)))[i]? = some (some (.ref a)) := List.getElem?_set_self (by rw [← R'.len]; exact hil)
     refine s2 g M1 As' (e.set i none) _ I' H' _ f2 a C d c ks cs vs (R'.unsetAt i (some (.ref a))) hσ hC rs hk hd e3 ?_
     cases f2 with
     | nx M2 e2 => cases hmm; exact fun σ2 A2 J H2 R2 s2 x2 => k _ A2 J H2 (R2.unsetAt i none) (s'.trans s2) (x'.trans x2)
     | bk M2 e2 => cases hmm; exact fun σ2 A2 J H2 R2 s2 x2 => k _ A2 J H2 (R2.unsetAt i none) (s'.trans s2) (x'.trans x2)
     | ct M2 e2 => cases hmm; exact fun σ2 A2 J H2 R2 s2 x2 => k _ A2 J H2 (R2.unsetAt i none) (s'.trans s2) (x'.trans x2)
     | ret v2 M2 e2 => cases hmm; exact fun σ2 A2 J H2 u R2 s2 x2 ru => k σ2 A2 J H2 u R2 (s'.trans s2) (x'.trans x2) ru
     | exc c2 ks2 cs2 M2 e2 => cases hmm
    ·cases hmm
   ·subst hbf
    rw [if_neg (by simp)] at hmm
    cases hmm
    exact k σ' As' I' H' C d vs R' s' x' hC rs hk hd
end
end Q
namespace Q
open PySem L2
def WC (m : MSC) (M : Mem) (env : aD) (Q : FlC → Prop) : Prop := ∃ fl, m M env = some fl ∧ Q fl
def sqC (b : MSC) (Q : FlC → Prop) : FlC → Prop
 | .nx M e => WC b M e Q
 | fl => Q fl
section
variable {a b : MSC} {M : Mem} {env e : aD} {Q : FlC → Prop} {x : MEC} {c : MTC} {gf : aw → aD → Option aD} {r : aw}
@[simp] theorem lJ : sqC b Q (.nx M e) ↔ WC b M e Q := Iff.rfl
@[simp] theorem Eu : sqC b Q (.bk M e) ↔ Q (.bk M e) := Iff.rfl
@[simp] theorem EO : sqC b Q (.ct M e) ↔ Q (.ct M e) := Iff.rfl
@[simp] theorem Ee : sqC b Q (.ret r M e) ↔ Q (.ret r M e) := Iff.rfl
@[simp] theorem qg : WC (cY a b) M env Q ↔ WC a M env (sqC b Q) := by
 unfold WC cY
 constructor
 ·rintro ⟨fl, h, q⟩
  obtain ⟨f1, h1, h2⟩ := Option.bind_eq_some_iff.mp h
  refine ⟨f1, h1, ?_⟩
  cases f1 with
  | nx M e => exact ⟨fl, h2, q⟩
  | _ => cases h2; exact q
 ·rintro ⟨fl, h, q⟩
  rw [h]
  cases fl with
  | nx M e => exact q
  | _ => exact ⟨_, rfl, q⟩
@[simp] theorem lV : WC jR M env Q ↔ Q (.nx M env) := by simp [WC, jR]
@[simp] theorem EC : WC zE M env Q ↔ Q (.bk M env) := by simp [WC, zE]
@[simp] theorem EW : WC zV M env Q ↔ Q (.ct M env) := by simp [WC, zV]
theorem zH : WC (eM gf x) M env Q ↔ Gt (x M env) fun p => Gt (gf p.1 env) fun e => Q (.nx p.2 e) := by
 rw [fJ]
 unfold WC eM
 cases h : x M env with
 | none => simp
 | some p =>
  simp only [Option.bind_some, Option.some.injEq, exists_eq_left']
  cases h2 : gf p.1 env <;> simp [Gt]
@[simp] theorem zy : WC (gK x) M env Q ↔ Gt (x M env) fun p => Q (.ret p.1 p.2 env) := by
 rw [fJ]
 unfold WC gK
 cases h : x M env <;> simp
@[simp] theorem DM : WC (vQ x) M env Q ↔ Gt (x M env) fun p => Q (.nx p.2 env) := by
 rw [fJ]
 unfold WC vQ
 cases h : x M env <;> simp
@[simp] theorem vT : WC (iu c a b) M env Q ↔ Gt (c M env) fun p => if p.1 = true then WC a p.2 env Q else WC b p.2 env Q := by
 rw [fJ]
 unfold WC iu
 cases h : c M env with
 | none => simp
 | some p => cases hp : p.1 <;> simp [hp]
theorem xQ {Q' : FlC → Prop} (h : WC a M env Q) (hq : ∀ fl, Q fl → Q' fl) : WC a M env Q' := let ⟨fl, h1, h2⟩ := h; ⟨fl, h1, hq fl h2⟩
end
def lpC (P : Mem → aD → Prop) (M1 : Mem) (ls : List Nat) (Q : FlC → Prop) : FlC → Prop
 | .nx M e => P M e
 | .ct M e => P M e
 | .bk M e => Gt (ek M1 ls M) fun M2 => Q (.nx M2 e)
 | .ret c M e => Gt (ek M1 ls M) fun M2 => Q (.ret c M2 e)
 | .exc c ks cs M e => Gt (ek M1 ls M) fun M2 => Q (.exc c ks cs M2 e)
theorem zv {it : MIC} {gf : aw → aD → Option aD} {body : MSC} {M M1 M2 : Mem} {env : aD} {ls : List Nat} {cs : List aw} {Q : FlC → Prop} (hit : it M env = some ((ls, cs), M1)) (hlk : nh M1 ls = some M2) (P : Nat → Mem → aD → Prop) (h0 : P 0 M2 env)
  (step : ∀ i c M e, cs[i]? = some c → P i M e → Gt (gf c e) fun e1 => WC body M e1 (lpC (P (i + 1)) M1 ls Q)) (fin : ∀ M e, P cs.length M e → Gt (ek M1 ls M) fun M3 => Q (.nx M3 e)) : WC (l5 it gf body) M env Q := by
 have main : ∀ (n i : Nat) (M : Mem) (e : aD), n + i = cs.length → P i M e → ∃ fl, mB gf body (cs.drop i) M e = some fl ∧ Gt (iM M1 ls fl) Q := by
  intro n
  induction n with
  | zero =>
   intro i M e hi hp
   have hi : i = cs.length := by omega
   subst hi
   rw [List.drop_length]
   obtain ⟨M3, h1, h2⟩ := fin M e hp
   exact ⟨_, rfl, .nx M3 e, by simp [iM, h1], h2⟩
  | succ n ih =>
   intro i M e hi hp
   have hlt : i < cs.length := by omega
   rw [List.drop_eq_getElem_cons hlt]
   obtain ⟨e1, h1, fl, h2, h3⟩ := step i _ M e (List.getElem?_eq_getElem hlt) hp
   unfold mB
   rw [h1]
   simp only [Option.bind_some]
   rw [h2]
   simp only [Option.bind_some]
   cases fl with
   | nx M' e' => exact ih (i + 1) M' e' (by omega) h3
   | ct M' e' => exact ih (i + 1) M' e' (by omega) h3
   | bk M' e' => obtain ⟨M3, q1, q2⟩ := h3; exact ⟨_, rfl, .nx M3 e', by simp [iM, q1], q2⟩
   | ret c M' e' => obtain ⟨M3, q1, q2⟩ := h3; exact ⟨_, rfl, .ret c M3 e', by simp [iM, q1], q2⟩
   | exc c ks ds M' e' => obtain ⟨M3, q1, q2⟩ := h3; exact ⟨_, rfl, .exc c ks ds M3 e', by simp [iM, q1], q2⟩
 obtain ⟨fl, h1, fl2, h2, h3⟩ := main cs.length 0 M2 env (by omega) h0
 refine ⟨fl2, ?_, h3⟩
 unfold l5
 rw [hit]
 simp only [Option.bind_some]
 rw [hlk]
 simp only [Option.bind_some]
 rw [List.drop_zero] at h1
 rw [h1]
 exact h2
def pY (P : Mem → aD → Prop) (Q : FlC → Prop) : FlC → Prop
 | .nx M e => P M e
 | .ct M e => P M e
 | .bk M e => Q (.nx M e)
 | .ret c M e => Q (.ret c M e)
 | .exc c ks cs M e => Q (.exc c ks cs M e)
@[simp] theorem D4 (P : Mem → aD → Prop) (Q : FlC → Prop) (M : Mem) (e : aD) : pY P Q (.nx M e) ↔ P M e := Iff.rfl
@[simp] theorem DT (P : Mem → aD → Prop) (Q : FlC → Prop) (M : Mem) (e : aD) : pY P Q (.ct M e) ↔ P M e := Iff.rfl
@[simp] theorem DO (P : Mem → aD → Prop) (Q : FlC → Prop) (M : Mem) (e : aD) : pY P Q (.bk M e) ↔ Q (.nx M e) := Iff.rfl
@[simp] theorem C5 (P : Mem → aD → Prop) (Q : FlC → Prop) (c : aw) (M : Mem) (e : aD) : pY P Q (.ret c M e) ↔ Q (.ret c M e) := Iff.rfl
theorem wH {it : MIC} {gf : aw → aD → Option aD} {body : MSC} {M M1 : Mem} {env : aD} {cs : List aw} {Q : FlC → Prop} (hit : it M env = some (([], cs), M1)) (P : Nat → Mem → aD → Prop) (h0 : P 0 M1 env)
  (step : ∀ i c M e, cs[i]? = some c → P i M e → Gt (gf c e) fun e1 => WC body M e1 (pY (P (i + 1)) Q)) (fin : ∀ M e, P cs.length M e → Q (.nx M e)) : WC (l5 it gf body) M env Q := by
 refine zv hit rfl P h0 (fun i c M e h1 h2 => ?_) fun M e h => ⟨M, rfl, fin M e h⟩
 obtain ⟨e1, q1, q2⟩ := step i c M e h1 h2
 refine ⟨e1, q1, xQ q2 fun fl h => ?_⟩
 cases fl with
 | nx M e => exact h
 | ct M e => exact h
 | bk M e => exact ⟨M, rfl, h⟩
 | ret c M e => exact ⟨M, rfl, h⟩
 | exc c ks cs M e => exact ⟨M, rfl, h⟩
section
variable (M : Mem) (env : aD)
theorem ou (m : ME) : bB m M env = (m (eb M env)).map fun p => (.fix p.1, M) := rfl
theorem wC (m : ME) : mn m M env = (m (eb M env)).bind fun p => (cellOf p.1).map fun c => (.at M.length, M ++ [c]) := rfl
theorem mT (m : MT) : gv m M env = (m (eb M env)).map fun p => (p.1, M) := rfl
theorem wB (i : Nat) : de i M env = (env[i]?).bind fun o => o.map fun c => (c, M) := rfl
theorem fW : cI M env = some ([], M) := rfl
theorem tj (a : MEC) (r : MAC) : bD a r M env = (a M env).bind fun p => (r p.2 env).map fun q => (p.1 :: q.1, q.2) := rfl
theorem rg (f : D → D → Option D) (a b : MEC) : gG f a b M env = (a M env).bind fun p => (b p.2 env).bind fun q => (rdC q.2 p.1).bind fun x => (rdC q.2 q.1).bind fun y => (f x y).map fun z => (.fix z, q.2) := rfl
theorem xo (m : MEC) : jk m M env = (m M env).bind fun p => match p.1 with
 | .fix (.bl b) => some (b, p.2)
 | _ => none := rfl
theorem xK (m : MEC) : mO m M env = (m M env).bind fun p => (rdC p.2 p.1).bind fun d => (dR d).map fun b => (b, p.2) := rfl
theorem w6 (a b : MTC) : oi a b M env = (a M env).bind fun p => if p.1 then b p.2 env else some (false, p.2) := rfl
theorem yx (a b : MTC) : cOr a b M env = (a M env).bind fun p => if p.1 then some (true, p.2) else b p.2 env := rfl
theorem uT (N : List Str) (np : Nat) (mf : MSC) (a : MAC) : f9 N np mf a M env = (a M env).bind fun p => if p.1.length = np then fv N mf p.2 p.1 else none := rfl
theorem xW (m : MI) : pA m M env = (m (eb M env)).map fun p => (([], p.1.map .fix), M) := rfl
theorem zx (i : Nat) (c : aw) : gNC i c env = if i < env.length then some (env.set i (some c)) else none := rfl
end
theorem jY (lk : Bool) (ds : List D) : (Cell.lst lk (ds.map .fix)).flat = some (.lst ds) := by
 show (fixes (ds.map aw.fix)).map D.lst = _
 rw [tO]; rfl
theorem mI : fu [] = [] := rfl
theorem mQ (d : D) (cs : List aw) : fu (.fix d :: cs) = fu cs := rfl
theorem oy (j : Nat) (cs : List aw) : fu (.at j :: cs) = j :: fu cs := rfl
theorem jO {N : List Str} {np : Nat} {mds : List Nat} {mf : MS} {a : MAC} {M M1 M2 : Mem} {env : aD} {cs : List aw} {ss : List Sl} {d : D} {ds : List D} (ha : a M env = some (cs, M1)) (hl : cs.length = np) (hok : okC mds cs = true) (hs : dM M1 mds 0 cs = some ss)
  (hr : res N mf ss (ioP 0 mds) = some (d, ds)) (hp : gi M1 (ioC mds cs) ds = some M2) : dB N np mds mf a M env = some (.fix d, M2) := by
 unfold dB
 rw [ha]
 simp only [Option.bind_some]
 rw [if_pos ⟨hl, hok⟩, hs]
 simp only [Option.bind_some]
 rw [hr]
 simp only [Option.bind_some]
 rw [hp]; rfl
theorem wU {N : List Str} {np : Nat} {mf : MSC} {a : MAC} {M M1 : Mem} {env : aD} {cs : List aw} {r : aw × Mem} (ha : a M env = some (cs, M1)) (hl : cs.length = np) (hr : fv N mf M1 cs = some r) : f9 N np mf a M env = some r := by
 rw [uT, ha]
 simp only [Option.bind_some]
 rw [if_pos hl]; exact hr
theorem tP {o e : MEC} {M M1 M3 : Mem} {env : aD} {j : Nat} {lk : Bool} {cs0 cs : List aw} {y : aw} {M2 : Mem} (ho : o M env = some (.at j, M1)) (hg : M1[j]? = some (.lst lk cs0)) (he : e M1 env = some (y, M2)) (hc : M2[j]? = some (.lst false cs)) (hl : cs.length < sizeLine) (hM : M2.set j (.lst false (cs ++ [y])) = M3) :
  nX o e M env = some (.nx M3 env) := by
 unfold nX
 rw [ho]
 simp only [Option.bind_some, hg]
 rw [he]
 simp only [Option.bind_some, hc]
 rw [if_pos hl, hM]
def sy (R : aw → Mem → Prop) : FlC → Prop
 | .nx M _ => R (.fix .non) M
 | .ret c M _ => R c M
 | _ => False
theorem wz {N : List Str} {mf : MSC} {M : Mem} {cs : List aw} {R : aw → Mem → Prop} (h : WC mf M (cs.map some ++ List.replicate (N.length - cs.length) none) (sy R)) : ∃ c M', fv N mf M cs = some (c, M') ∧ R c M' := by
 obtain ⟨fl, h1, h2⟩ := h
 unfold fv
 rw [h1]
 cases fl with
 | nx M e => exact ⟨_, _, rfl, h2⟩
 | ret c M e => exact ⟨_, _, rfl, h2⟩
 | bk M e => exact h2.elim
 | ct M e => exact h2.elim
 | exc c ks cs M e => exact h2.elim
@[simp] theorem Cb (R : aw → Mem → Prop) (c : aw) (M : Mem) (e : aD) : sy R (.ret c M e) ↔ R c M := Iff.rfl
@[simp] theorem D0 (R : aw → Mem → Prop) (M : Mem) (e : aD) : sy R (.nx M e) ↔ R (.fix .non) M := Iff.rfl
end Q
namespace Q
open PySem L2
def kL (f : aw → Option (D × List Nat)) : List aw → Option (List D × List Nat)
 | [] => some ([], [])
 | c :: cs => (f c).bind fun p => (kL f cs).map fun q => (p.1 :: q.1, p.2 ++ q.2)
def dw (M : Mem) : Nat → aw → Option (D × List Nat)
 | _, .fix d => some (d, [])
 | 0, _ => none
 | n + 1, .tup cs => (kL (dw M n) cs).map fun p => (.tup p.1, p.2)
 | n + 1, .at j => match M[j]? with
  | some (.lst _ cs) => (kL (dw M n) cs).map fun p => (.lst p.1, j :: p.2)
  | some (.obj c ks cs) => (kL (dw M n) cs).map fun p => (.obj c ks p.1, j :: p.2)
  | _ => none
def InJ (As : List Addr) (js : List Nat) (a : Addr) : Prop := ∃ j ∈ js, As[j]? = some a
open Classical in
noncomputable def eo (As : List Addr) (js : List Nat) (I H : Hp) : Hp := fun a => if InJ As js a then H a else I a
open Classical in
noncomputable def hG (As : List Addr) (js : List Nat) (I2 : Hp) : Hp := fun a => if InJ As js a then none else I2 a
section
variable {K : PySem.W.Frag} {cl : String → Option Addr} {g : CG} {M : Mem} {As : List Addr} {env : aD} {σ : St} {I H : Hp}
theorem jg {f : aw → Option (D × List Nat)} {I2 : Hp} {S : List Nat} (hf : ∀ c v d js, f c = some (d, js) → cM K cl I As c v → (∀ j ∈ js, j ∈ S) → Rep K cl I2 d v) : ∀ {cs : List aw} {vs : List V} {ds : List D} {js : List Nat}, kL f cs = some (ds, js) → bo K cl I As cs vs → (∀ j ∈ js, j ∈ S) → aI K cl I2 ds vs
 | [], _, _, _, h, .nil, _ => by cases h; exact .nil
 | c :: cs, _, _, _, h, .cons r t, hs => by
  unfold kL at h
  obtain ⟨⟨d, j1⟩, e1, h⟩ := Option.bind_eq_some_iff.mp h
  obtain ⟨⟨ds, j2⟩, e2, h⟩ := Option.map_eq_some_iff.mp h
  cases h
  exact .cons (hf c _ d j1 e1 r fun j hj => hs j (List.mem_append_left _ hj)) (jg hf e2 t fun j hj => hs j (List.mem_append_right _ hj))
theorem iG {f : aw → Option (D × List Nat)} (hf : ∀ c d js, f c = some (d, js) → ∀ j ∈ js, ∃ x, M[j]? = some x ∧ x ≠ .dead) : ∀ {cs : List aw} {ds : List D} {js : List Nat}, kL f cs = some (ds, js) → ∀ j ∈ js, ∃ x, M[j]? = some x ∧ x ≠ .dead
 | [], _, _, h => by cases h; intro j hj; cases hj
 | c :: cs, _, _, h => by
  unfold kL at h
  obtain ⟨⟨d, j1⟩, e1, h⟩ := Option.bind_eq_some_iff.mp h
  obtain ⟨⟨ds, j2⟩, e2, h⟩ := Option.map_eq_some_iff.mp h
  cases h
  intro j hj
  rcases List.mem_append.mp hj with hj | hj
  ·exact hf c d j1 e1 j hj
  ·exact iG hf e2 j hj
theorem qj : ∀ (n : Nat) (c : aw) (d : D) (js : List Nat), dw M n c = some (d, js) → ∀ j ∈ js, ∃ x, M[j]? = some x ∧ x ≠ .dead := by
 intro n
 induction n with
 | zero =>
  intro c d js h
  cases c with
  | fix d' => simp only [dw] at h; cases h; intro j hj; cases hj
  | «at» j => simp only [dw] at h; cases h
  | tup cs => simp only [dw] at h; cases h
 | succ n ih =>
  intro c d js h
  cases c with
  | fix d' => simp only [dw] at h; cases h; intro j hj; cases hj
  | tup cs =>
   simp only [dw] at h
   obtain ⟨⟨ds, j2⟩, e2, h⟩ := Option.map_eq_some_iff.mp h
   cases h
   exact iG ih e2
  | «at» j =>
   simp only [dw] at h
   split at h
   ·rename_i lk cs hj
    obtain ⟨⟨ds, j2⟩, e2, h⟩ := Option.map_eq_some_iff.mp h
    cases h
    intro i hi
    rcases List.mem_cons.mp hi with rfl | hi
    ·exact ⟨_, hj, by intro z; cases z⟩
    ·exact iG ih e2 i hi
   ·rename_i c ks cs hj
    obtain ⟨⟨ds, j2⟩, e2, h⟩ := Option.map_eq_some_iff.mp h
    cases h
    intro i hi
    rcases List.mem_cons.mp hi with rfl | hi
    ·exact ⟨_, hj, by intro z; cases z⟩
    ·exact iG ih e2 i hi
   ·cases h
theorem CR.lent_facts (R : CR K cl g M As env σ I H) {js : List Nat} (hal : ∀ j ∈ js, ∃ x, M[j]? = some x ∧ x ≠ .dead) {a : Addr} (h : InJ As js a) : I a = none ∧ (∃ o, H a = some o) ∧ ¬ a9 cl a := by
 obtain ⟨j, hj, ha⟩ := h
 obtain ⟨x, hx, hd⟩ := hal j hj
 obtain ⟨h1, o, h2, h3⟩ := R.me j x a hx ha hd
 refine ⟨h1, ⟨o, h2⟩, fun ht => ?_⟩
 obtain ⟨_, ⟨ps, h4, _⟩, _⟩ := R.tb a ht
 rw [h2] at h4
 exact h3.notTab (Option.some.inj h4)
theorem CR.lend_same (R : CR K cl g M As env σ I H) {js : List Nat} (hal : ∀ j ∈ js, ∃ x, M[j]? = some x ∧ x ≠ .dead) : Same I (eo As js I H) ∧ Same (eo As js I H) H := by
 refine ⟨fun a o e => ?_, fun a o e => ?_⟩
 ·unfold eo
  rw [if_neg (fun h => by have := (R.lent_facts hal h).1; rw [this] at e; cases e)]
  exact e
 ·unfold eo at e
  split at e
  ·exact e
  ·exact R.sub a o e
theorem sJ (R : CR K cl g M As env σ I H) {S : List Nat} (hal : ∀ j ∈ S, ∃ x, M[j]? = some x ∧ x ≠ .dead) : ∀ (n : Nat) (c : aw) (v : V) (d : D) (js : List Nat), dw M n c = some (d, js) → cM K cl I As c v → (∀ j ∈ js, j ∈ S) → Rep K cl (eo As S I H) d v := by
 have sm := (R.lend_same hal).1
 have at_ : ∀ {j : Nat} {a : Addr} {o : HO}, j ∈ S → As[j]? = some a → H a = some o → eo As S I H a = some o := fun {j a o} hj ha ho => by
  unfold eo
  rw [if_pos ⟨j, hj, ha⟩]; exact ho
 intro n
 induction n with
 | zero =>
  intro c v d js h r hs
  cases c with
  | fix d' => simp only [dw] at h; cases h; exact r.fix_inv.mono sm
  | «at» j => simp only [dw] at h; cases h
  | tup cs => simp only [dw] at h; cases h
 | succ n ih =>
  intro c v d js h r hs
  cases c with
  | fix d' => simp only [dw] at h; cases h; exact r.fix_inv.mono sm
  | tup cs =>
   simp only [dw] at h
   obtain ⟨⟨ds, j2⟩, e2, h⟩ := Option.map_eq_some_iff.mp h
   cases h
   obtain ⟨a, vs, rfl, h1, h2⟩ := r.tup_inv
   exact .tup (SqT.mono sm h1) (jg ih e2 h2 hs)
  | «at» j =>
   obtain ⟨a, rfl, ha⟩ := r.at_inv
   simp only [dw] at h
   split at h
   ·rename_i lk cs hj
    obtain ⟨⟨ds, j2⟩, e2, h⟩ := Option.map_eq_some_iff.mp h
    cases h
    obtain ⟨o, q1, q2, _⟩ := R.cell hj ha (by intro z; cases z)
    obtain ⟨vs, rfl, rc⟩ := q2.lst_inv
    exact .obj (at_ (hs j List.mem_cons_self) ha q1) (.lst (jg ih e2 rc fun i hi => hs i (List.mem_cons_of_mem _ hi)))
   ·rename_i c ks cs hj
    obtain ⟨⟨ds, j2⟩, e2, h⟩ := Option.map_eq_some_iff.mp h
    cases h
    obtain ⟨o, q1, q2, _⟩ := R.cell hj ha (by intro z; cases z)
    obtain ⟨C, dx, vs, rfl, hC, rc, hl⟩ := q2.ob_inv
    have rr := jg ih e2 rc fun i hi => hs i (List.mem_cons_of_mem _ hi)
    exact .obj (at_ (hs j List.mem_cons_self) ha q1) (.obj hC rr (by rw [hl, rc.length, rr.length]))
   ·cases h
end
section
variable {Z : Zc}
mutual
def kn : D → Bool
 | .int _ => true
 | .bl _ => true
 | .str _ => true
 | .non => true
 | .tup ds => jA ds
 | _ => false
def jA : List D → Bool
 | [] => true
 | d :: ds => kn d && jA ds
end
theorem uU {K : PySem.W.Frag} {I I2 : Hp} {a : Addr} {vs : List V} (ht : ∀ a xs, I a = some (.tup xs) → I2 a = some (.tup xs)) (h : SqT K I a vs) (hf : ∀ a o xs, I a = some (.frz o (.tup xs)) → I2 a = some (.frz o (.tup xs))) : SqT K I2 a vs := by
 rcases h with (h | ⟨o, h⟩) | h
 ·exact .inl (.inl (ht _ _ h))
 ·exact .inl (.inr ⟨o, hf _ _ _ h⟩)
 ·exact .inr h
mutual
theorem oN {K : PySem.W.Frag} {cl : String → Option Addr} {I I2 : Hp} (ht : ∀ a xs, I a = some (.tup xs) → I2 a = some (.tup xs)) (hf : ∀ a o xs, I a = some (.frz o (.tup xs)) → I2 a = some (.frz o (.tup xs))) : ∀ {d : D} {v : V}, kn d = true → Rep K cl I d v → Rep K cl I2 d v
 | .int _, _, _, r => by
  cases r with
  | int => exact .int
  | obj _ q => cases q
 | .bl _, _, _, r => by
  cases r with
  | bl => exact .bl
  | obj _ q => cases q
 | .str _, _, _, r => by
  cases r with
  | str => exact .str
  | obj _ q => cases q
 | .non, _, _, r => by
  cases r with
  | non => exact .non
  | obj _ q => cases q
 | .tup ds, _, h, r => by
  obtain ⟨a, vs, rfl, h1, h2⟩ := r.tup_inv
  exact .tup (uU ht h1 hf) (nO ht hf (by simpa [kn] using h) h2)
theorem nO {K : PySem.W.Frag} {cl : String → Option Addr} {I I2 : Hp} (ht : ∀ a xs, I a = some (.tup xs) → I2 a = some (.tup xs)) (hf : ∀ a o xs, I a = some (.frz o (.tup xs)) → I2 a = some (.frz o (.tup xs))) : ∀ {ds : List D} {vs : List V}, jA ds = true → aI K cl I ds vs → aI K cl I2 ds vs
 | [], _, _, .nil => .nil
 | d :: ds, _, h, .cons r t => by
  have h : kn d = true ∧ jA ds = true := by simpa [jA] using h
  exact .cons (oN ht hf h.1 r) (nO ht hf h.2 t)
end
def jz (M : Mem) (is : List Nat) : Nat → aD → Option (aD × List Nat)
 | _, [] => some ([], [])
 | k, o :: r => (jz M is (k + 1) r).bind fun q => match o with
  | some (.fix d) => some (some (.fix d) :: q.1, q.2)
  | some (.at j) => if k ∈ is then (dw M 6 (.at j)).map fun p => (some (.fix p.1) :: q.1, p.2 ++ q.2) else some (none :: q.1, q.2)
  | _ => some (none :: q.1, q.2)
theorem l9 {M : Mem} {is : List Nat} : ∀ {k : Nat} {env : aD} {e2 : aD} {js : List Nat}, jz M is k env = some (e2, js) → e2.length = env.length ∧ (∀ j ∈ js, ∃ x, M[j]? = some x ∧ x ≠ .dead) ∧
  ∀ (i : Nat) (c : aw), e2[i]? = some (some c) → ∃ d, c = .fix d ∧ (env[i]? = some (some (.fix d)) ∨ ∃ j js', env[i]? = some (some (.at j)) ∧ dw M 6 (.at j) = some (d, js') ∧ ∀ q ∈ js', q ∈ js)
 | k, [], e2, js, h => by cases h; exact ⟨rfl, (fun j hj => nomatch hj), fun i c h => by simp at h⟩
 | k, o :: r, e2, js, h => by
  unfold jz at h
  obtain ⟨⟨e3, j3⟩, h1, h⟩ := Option.bind_eq_some_iff.mp h
  obtain ⟨l, ha, ih⟩ := l9 h1
  have up : ∀ (x : Option aw) (js : List Nat), (∀ q ∈ j3, q ∈ js) → (∀ c, x = some c → ∃ d, c = .fix d ∧ (o = some (.fix d) ∨ ∃ j js', o = some (.at j) ∧ dw M 6 (.at j) = some (d, js') ∧ ∀ q ∈ js', q ∈ js)) →
    ∀ (i : Nat) (c : aw), (x :: e3)[i]? = some (some c) → ∃ d, c = .fix d ∧ ((o :: r)[i]? = some (some (.fix d)) ∨ ∃ j js', (o :: r)[i]? = some (some (.at j)) ∧ dw M 6 (.at j) = some (d, js') ∧ ∀ q ∈ js', q ∈ js) := fun x js hj hx i c hc => by
   cases i with
   | zero =>
    simp only [List.getElem?_cons_zero, Option.some.injEq] at hc ⊢
    exact hx c hc
   | succ i =>
    simp only [List.getElem?_cons_succ] at hc ⊢
    obtain ⟨d, q1, q2⟩ := ih i c hc
    refine ⟨d, q1, q2.imp id fun ⟨j, js', w1, w2, w3⟩ => ⟨j, js', w1, w2, fun q hq => hj q (w3 q hq)⟩⟩
  dsimp only at h
  clear h1
  split at h
  ·rename_i d _
   cases h
   exact ⟨by simp [l], ha, up _ _ (fun q hq => hq) fun c hc => ⟨d, (Option.some.inj hc).symm, .inl rfl⟩⟩
  ·rename_i j _
   split at h
   ·obtain ⟨⟨d, j4⟩, h2, h⟩ := Option.map_eq_some_iff.mp h
    cases h
    refine ⟨by simp [l], fun q hq => ?_, up _ _ (fun q hq => List.mem_append_right _ hq) fun c hc => ⟨d, (Option.some.inj hc).symm, .inr ⟨j, j4, rfl, h2, fun q hq => List.mem_append_left _ hq⟩⟩⟩
    rcases List.mem_append.mp hq with hq | hq
    ·exact qj _ _ _ _ h2 q hq
    ·exact ha q hq
   ·cases h
    exact ⟨by simp [l], ha, up _ _ (fun q hq => hq) fun c hc => by cases hc⟩
  ·cases h
   exact ⟨by simp [l], ha, up _ _ (fun q hq => hq) fun c hc => by cases hc⟩
def jZ (M : Mem) : Mem := M.map fun _ => .dead
def lU (is : List Nat) (m : MEC) : MEC := fun M env => (jz M is 0 env).bind fun q => (m (jZ M) q.1).bind fun p => match p.1 with
 | .fix d => if kn d = true then some (.fix d, M) else none
 | _ => none
theorem uK {e : Expr} {m : MEC} (is : List Nat) (h : CEV Z e m) : CEV Z e (lU is m) := by
 obtain ⟨t, h1, h2⟩ := h
 refine ⟨t, h1, fun g M As env σ I H Q c M' R hm k => ?_⟩
 unfold lU at hm
 obtain ⟨⟨e2, js⟩, q1, hm⟩ := Option.bind_eq_some_iff.mp hm
 obtain ⟨⟨c1, M1⟩, q2, hm⟩ := Option.bind_eq_some_iff.mp hm
 dsimp only at hm q2
 split at hm
 ·rename_i d
  split at hm
  ·rename_i hpl
   cases hm
   obtain ⟨hl, hal, hget⟩ := l9 q1
   obtain ⟨s1, s2⟩ := R.lend_same hal
   have RL : CR Z.K Z.cl ⟨eo As js I H, H⟩ (jZ M) As e2 σ (eo As js I H) H := by
    refine ⟨s2, Same.refl _, fun a o e _ => e, fun a o _ e => e, by rw [hl]; exact R.len, fun i c hc => ?_, by unfold jZ; rw [List.length_map]; exact R.ml, R.nd, R.al, fun j c a e1 e2 e3 => ?_, fun j c a e1 e2 e3 => ?_, fun a ht => ?_⟩
    ·obtain ⟨d', rfl, hd⟩ := hget i c hc
     rcases hd with hd | ⟨j, js', w1, w2, w3⟩
     ·obtain ⟨v, y1, y2⟩ := R.at_ i _ hd
      exact ⟨v, y1, y2.mono s1 (Ext.refl _)⟩
     ·obtain ⟨v, y1, y2⟩ := R.at_ i _ w1
      exact ⟨v, y1, .fix (sJ R hal _ _ _ _ _ w2 y2 w3)⟩
    ·unfold jZ at e1
     rw [List.getElem?_map] at e1
     obtain ⟨_, _, rfl⟩ := Option.map_eq_some_iff.mp e1
     exact absurd rfl e3
    ·unfold jZ at e1
     rw [List.getElem?_map] at e1
     obtain ⟨_, _, rfl⟩ := Option.map_eq_some_iff.mp e1
     cases e3
    ·obtain ⟨t1, t2, t3⟩ := R.tb a ht
     refine ⟨?_, t2, let ⟨ps, h, _⟩ := t2; ⟨_, h⟩⟩
     unfold eo
     rw [if_neg (fun h => (R.lent_facts hal h).2.2 ht)]
     exact t1
   refine h2 _ _ As e2 σ _ H _ (.fix d) M1 RL q2 fun v As1 I1 H1 R1 sI x1 rv => ?_
   have nb : ∀ a, InJ As js a → ∀ o, I1 a = some o → H a = some o := fun a ha o e => by
    obtain ⟨_, ⟨o', ho⟩, _⟩ := R.lent_facts hal ha
    have : eo As js I H a = some o' := by unfold eo; rw [if_pos ha]; exact ho
    have := sI a o' this
    rw [e] at this; cases this; exact ho
   have ntup : ∀ a, InJ As js a → ∀ o, H a = some o → (∀ xs, o ≠ .tup xs) ∧ ∀ q xs, o ≠ .frz q xs := fun a ha o ho => by
    obtain ⟨j, hj, hA⟩ := ha
    obtain ⟨x, hx, hd⟩ := hal j hj
    obtain ⟨_, u, h5, h6⟩ := R.me j x a hx hA hd
    rw [ho] at h5; cases h5
    cases h6 <;> exact ⟨fun xs z => (nomatch z), fun q xs z => (nomatch z)⟩
   have bk : ∀ a o, hG As js I1 a = some o → I1 a = some o := fun a o e => by
    unfold hG at e
    split at e
    ·cases e
    ·exact e
   have sI2 : Same I (hG As js I1) := fun a o e => by
    unfold hG
    rw [if_neg (fun h => by have := (R.lent_facts hal h).1; rw [this] at e; cases e)]
    exact sI a o (s1 a o e)
   have R2 : CR Z.K Z.cl g M As env σ (hG As js I1) H1 := by
    refine R.step (fun a o e => R1.sub a o (bk a o e)) sI2 (fun a o e n => R1.h0 a o e n) (fun a o e e0 => ?_) fun a ht => (R1.tb a ht).2.1
    unfold hG
    split
    ·rfl
    ·rename_i hn
     refine R1.hi a o e ?_
     show eo As js I H a = none
     unfold eo
     rw [if_neg hn]; exact e0
   refine k v As _ H1 R2 sI2 (Ext.refl _) (.fix (oN (fun a xs e => ?_) (fun a o xs e => ?_) hpl rv.fix_inv))
   ·unfold hG
    rw [if_neg (fun h => (ntup a h _ (nb a h _ e)).1 xs rfl)]; exact e
   ·unfold hG
    rw [if_neg (fun h => (ntup a h _ (nb a h _ e)).2 o (.tup xs) rfl)]; exact e
  ·cases hm
 ·cases hm
end
end Q
namespace Q
open PySem PySem.Spec PyProof.Rows L2
section
variable {Z : Zc}
structure zq (Z : Zc) (x : Str) (c : String) (N : List Str) (np : Nat) (mf : MSC) (n : Nat) (ks : List Str) : Prop where
 ex : ∃ (k : Nat) (C f : Addr) (fd : FuncData) (ps : List Str) (g : List Value → List Value → List Value), k + 1 ≤ Z.k ∧ Z.cl c = some C ∧ Z.mg x = some (.ref C) ∧ Mk Z.K C f ∧ FnG Z.P Z.w Z.K Z.mg Z.base CX0 k f fd ps (spC Z.K Z.cl N np mf) ∧ KBn Z.K fd ps (n + 1) ks g (fun vs zs => vs ++ zs)
structure rX (c : Pc) (k : Nat) (x : Str) (cn : String) (N : List Str) (np : Nat) (mf : MSC) (n : Nat) (ks : List Str) : Prop where
 ex : ∃ (C f : Addr) (fd : FuncData) (ps : List Str) (g : List Value → List Value → List Value), c.cl cn = some C ∧ c.mg x = some (.ref C) ∧ Mk c.K C f ∧ FnG c.P c.w c.K c.mg c.base CX0 k f fd ps (spC c.K c.cl N np mf) ∧ KBn c.K fd ps (n + 1) ks g (fun vs zs => vs ++ zs)
theorem rX.z {c : Pc} {j k np n : Nat} {x : Str} {cn : String} {N M ks : List Str} {mf : MSC} {sc : Scope} {me : Option (Addr × Addr)} (F : rX c j x cn M np mf n ks) (h : j + 1 ≤ k) : zq (c.z k N sc me) x cn M np mf n ks := let ⟨C, f, fd, ps, g, q1, q2, q3, h1, h2⟩ := F.ex; ⟨j, C, f, fd, ps, g, h, q1, q2, q3, h1, h2⟩
theorem rX.zb {c : Pc} {j k np n : Nat} {x : Str} {cn : String} {N M ks : List Str} {mf : MSC} {sc s1 : Scope} {me : Option (Addr × Addr)} (F : rX c j x cn M np mf n ks) (h : j + 1 ≤ k) : zq (ZB (c.z k N sc me) s1) x cn M np mf n ks := let ⟨C, f, fd, ps, g, q1, q2, q3, h1, h2⟩ := F.ex; ⟨j, C, f, fd, ps, g, h, q1, q2, q3, h1, h2⟩
structure z9 (Z : Zc) (x : Str) (c : String) (N : List Str) (np : Nat) (mf : MSC) (dd : List D) : Prop where
 ex : ∃ (k : Nat) (C f : Addr) (fd : FuncData) (ps : List Str) (dvs : List V) (ds : List Value), k + 1 ≤ Z.k ∧ Z.cl c = some C ∧ Z.mg x = some (.ref C) ∧ Mk Z.K C f ∧ FnG Z.P Z.w Z.K Z.mg Z.base CX0 k f fd ps (spC Z.K Z.cl N np mf) ∧ Binds Z.K fd ps ds ∧ Vals dvs ds ∧ ∀ I, aI Z.K Z.cl I dd dvs
structure rM (c : Pc) (k : Nat) (x : Str) (cn : String) (N : List Str) (np : Nat) (mf : MSC) (dd : List D) : Prop where
 ex : ∃ (C f : Addr) (fd : FuncData) (ps : List Str) (dvs : List V) (ds : List Value), c.cl cn = some C ∧ c.mg x = some (.ref C) ∧ Mk c.K C f ∧ FnG c.P c.w c.K c.mg c.base CX0 k f fd ps (spC c.K c.cl N np mf) ∧ Binds c.K fd ps ds ∧ Vals dvs ds ∧ ∀ I, aI c.K c.cl I dd dvs
theorem rM.z {c : Pc} {j k np : Nat} {x : Str} {cn : String} {N M : List Str} {mf : MSC} {dd : List D} {sc : Scope} {me : Option (Addr × Addr)} (F : rM c j x cn M np mf dd) (h : j + 1 ≤ k) : z9 (c.z k N sc me) x cn M np mf dd := let ⟨C, f, fd, ps, q0, q9, q1, q2, q3, h1, h2⟩ := F.ex; ⟨j, C, f, fd, ps, q0, q9, h, q1, q2, q3, h1, h2⟩
theorem rM.zb {c : Pc} {j k np : Nat} {x : Str} {cn : String} {N M : List Str} {mf : MSC} {dd : List D} {sc s1 : Scope} {me : Option (Addr × Addr)} (F : rM c j x cn M np mf dd) (h : j + 1 ≤ k) : z9 (ZB (c.z k N sc me) s1) x cn M np mf dd := let ⟨C, f, fd, ps, q0, q9, q1, q2, q3, h1, h2⟩ := F.ex; ⟨j, C, f, fd, ps, q0, q9, h, q1, q2, q3, h1, h2⟩
end
end Q
namespace Q
open PySem PySem.Spec PyProof.Rows L2
section
variable {Z : Zc}
abbrev Aa (cn : String) (f : Str) : String → List Str → List aw → Option aw := fun c ks cs => if c = cn then lT ks cs f else none
end
end Q
namespace Q
open PySem PySem.Spec PyProof.Rows L2
structure Bn (Z : Zc) (x : Str) (N : List Str) (np : Nat) (mf : MSC) (n : Nat) (ks : List Str) : Prop where
 ex : ∃ (f : Addr) (fd : FuncData) (ps : List Str) (g : List Value → List Value → List Value), FnG Z.P Z.w Z.K Z.mg Z.base (L2.CX Z.P Z.w) Z.k f fd ps (jm Z.K Z.cl N np mf) ∧ Z.mg x = some (.ref f) ∧ PySem.W.keepIn Z.K (.ref f) = true ∧ KBn Z.K fd ps n ks g (fun vs zs => vs ++ zs)
structure vu (c : Pc) (k : Nat) (x : Str) (N : List Str) (np : Nat) (mf : MSC) (n : Nat) (ks : List Str) : Prop where
 ex : ∃ (f : Addr) (fd : FuncData) (ps : List Str) (g : List Value → List Value → List Value), FnG c.P c.w c.K c.mg c.base (L2.CX c.P c.w) k f fd ps (jm c.K c.cl N np mf) ∧ c.mg x = some (.ref f) ∧ PySem.W.keepIn c.K (.ref f) = true ∧ KBn c.K fd ps n ks g (fun vs zs => vs ++ zs)
theorem vu.z {c : Pc} {j k np n : Nat} {x : Str} {N M ks : List Str} {mf : MSC} {sc : Scope} {me : Option (Addr × Addr)} (F : vu c j x M np mf n ks) (h : j ≤ k) : Bn (c.z k N sc me) x M np mf n ks := let ⟨f, fd, ps, g, h1, h2⟩ := F.ex; ⟨f, fd, ps, g, h1.mono h, h2⟩
end Q
namespace Q
open PySem PySem.Spec PyProof.Rows L2
structure zO (Z : Zc) (x : Str) (N : List Str) (np : Nat) (mf : MS) (n : Nat) (ks : List Str) : Prop where
 ex : ∃ (f : Addr) (fd : FuncData) (ps : List Str) (g : List Value → List Value → List Value), FnG Z.P Z.w Z.K Z.mg Z.base CX0 Z.k f fd ps (spM Z.K Z.cl N np mf) ∧ Z.mg x = some (.ref f) ∧ PySem.W.keepIn Z.K (.ref f) = true ∧ KBn Z.K fd ps n ks g (fun vs zs => vs ++ zs)
structure rO (c : Pc) (k : Nat) (x : Str) (N : List Str) (np : Nat) (mf : MS) (n : Nat) (ks : List Str) : Prop where
 ex : ∃ (f : Addr) (fd : FuncData) (ps : List Str) (g : List Value → List Value → List Value), FnG c.P c.w c.K c.mg c.base CX0 k f fd ps (spM c.K c.cl N np mf) ∧ c.mg x = some (.ref f) ∧ PySem.W.keepIn c.K (.ref f) = true ∧ KBn c.K fd ps n ks g (fun vs zs => vs ++ zs)
theorem rO.z {c : Pc} {j k np n : Nat} {x : Str} {N M ks : List Str} {mf : MS} {sc : Scope} {me : Option (Addr × Addr)} (F : rO c j x M np mf n ks) (h : j ≤ k) : zO (c.z k N sc me) x M np mf n ks := let ⟨f, fd, ps, g, h1, h2⟩ := F.ex; ⟨f, fd, ps, g, h1.mono h, h2⟩
theorem rO.zb {c : Pc} {j k np n : Nat} {x : Str} {N M ks : List Str} {mf : MS} {sc s1 : Scope} {me : Option (Addr × Addr)} (F : rO c j x M np mf n ks) (h : j ≤ k) : zO (ZB (c.z k N sc me) s1) x M np mf n ks := let ⟨f, fd, ps, g, h1, h2⟩ := F.ex; ⟨f, fd, ps, g, h1.mono h, h2⟩
end Q
namespace Q
open PySem PySem.Spec PyProof.Rows L2
structure Ax (Z : Zc) (x : Str) (N : List Str) (np : Nat) (mf : MSC) (n : Nat) (ks : List Str) : Prop where
 ex : ∃ (f : Addr) (fd : FuncData) (ps : List Str) (g : List Value → List Value → List Value), FnG Z.P Z.w Z.K Z.mg Z.base CX0 Z.k f fd ps (spC Z.K Z.cl N np mf) ∧ Z.mg x = some (.ref f) ∧ PySem.W.keepIn Z.K (.ref f) = true ∧ KBn Z.K fd ps n ks g (fun vs zs => vs ++ zs)
structure vM (c : Pc) (k : Nat) (x : Str) (N : List Str) (np : Nat) (mf : MSC) (n : Nat) (ks : List Str) : Prop where
 ex : ∃ (f : Addr) (fd : FuncData) (ps : List Str) (g : List Value → List Value → List Value), FnG c.P c.w c.K c.mg c.base CX0 k f fd ps (spC c.K c.cl N np mf) ∧ c.mg x = some (.ref f) ∧ PySem.W.keepIn c.K (.ref f) = true ∧ KBn c.K fd ps n ks g (fun vs zs => vs ++ zs)
theorem vM.z {c : Pc} {j k np n : Nat} {x : Str} {N M ks : List Str} {mf : MSC} {sc : Scope} {me : Option (Addr × Addr)} (F : vM c j x M np mf n ks) (h : j ≤ k) : Ax (c.z k N sc me) x M np mf n ks := let ⟨f, fd, ps, g, h1, h2⟩ := F.ex; ⟨f, fd, ps, g, h1.mono h, h2⟩
end Q
namespace Q
open PySem PySem.Spec PyProof.Rows L2
section
variable {X : Cx} {pins : List (Addr × Obj)} {σ : L2.St} {H : Hp} {s : Shared} {a C u : Addr} {E : Value → Shared → Prop}
theorem uG {us : List Value} {Q : Value → Shared → Prop} (T : OexC X.K C) (I : Inv X pins σ H s) (e : H a = some (exo a C none)) (hu : s.heap.get? u = some (PySem.W.kxs_mw "ValueError.__init__" a)) (hl : us.length ≤ sizeLine)
  (h : ∀ s', Inv X pins σ H s' → Q .none s') : wpAny (model X.prog X.w) X.A (call (.ref u) us) Q E s := by
 obtain ⟨nm, q, N, bs, bm, sn, sub, ab, col, dd, k0, k1, k2, k3, k5, hC, hbm⟩ := T.cls
 obtain ⟨t1, ho⟩ := exo_at I.hok e
 obtain ⟨hp, g, d, t, os⟩ := s
 refine wpAny_call (codeAny_of_tree ?_)
 show wpAny _ X.A.in1 (callAny (.ref u) ⟨us, []⟩) _ _ _
 simp only [callAny]
 refine wpAny_bind (wpAny_load hu ?_)
 simp only [PySem.W.kxs_mw, show (Value.type "method-wrapper" == Value.type "method" || Value.type "method-wrapper" == Value.type "builtin_function_or_method" || Value.type "method-wrapper" == Value.type "method-wrapper") = true by decide, if_true]
 refine PySem.W.KFB.if_so (by decide) ?_
 refine wpAny_bind (PySem.W.check_bound_init PySem.F.excBase_ValueError.toExcCallFacts (I.kIn _ _ hC) ho rfl ?_)
 refine wpAny_bind (wpAny_pure (wpAny_pure ?_))
 refine ⟨plainId_quiet PySem.F.excBase_ValueError.init.plain _, codeAny_builtin PySem.F.excBase_ValueError.initEntry ?_⟩
 refine PySem.W.exc_init_tree (cls := .ref C) (t0 := t1) (dv := none) (c2 := .none) (c3 := .none) (b4 := .bool false) ho hl fun h' k hx _ => ?_
 have J := I.write (t' := t) (x := a) (e := a) (o := exo a C none) (by rw [e]; exact True.intro) (.inl rfl) k ⟨_, hx⟩ (exo_ok hx)
 have eu : upd H a (exo a C none) = H := by
  funext b
  by_cases hb : b = a
  ·rw [hb, upd_same, e]
  ·rw [upd_ne hb]
 rw [eu] at J
 exact h _ J
end
def PSa (X : Cx) (c : Code) (sts : List Stmt) (t : TS) : Prop := ∀ (pins : List (Addr × Obj)) (s : Shared) (σ : L2.St) (H : Hp) (D : Ends), Inv X pins σ H s → t D σ H → PySem.wpAt (model X.prog X.w) X.A c (execs sts X.env) (SP X pins D) X.xe s
def yv (X : Cx) (c : Code) (st : Stmt) (t : TS) : Prop := ∀ (pins : List (Addr × Obj)) (s : Shared) (σ : L2.St) (H : Hp) (D : Ends), Inv X pins σ H s → t D σ H → PySem.wpAt (model X.prog X.w) X.A c (exec st X.env) (SP X pins D) X.xe s
theorem yr {X : Cx} {c : Code} {sts : List Stmt} {t : TS} (h : PSs X sts t) : PSa X c sts t := fun pins s σ H D I q => wpAt_of_wpAny (h.run pins s σ H D I q)
theorem uI {X : Cx} {c : Code} {st : Stmt} {sts : List Stmt} {t u : TS} (h : yv X c st t) (k : PSa X c sts u) : PSa X c (st :: sts) (tSeq t u) := fun pins s σ H D I q =>
 PySem.ks_wpAt_execs_cons (PySem.ks_wpAt_mono (h pins s σ H _ I q) (fun f s1 hs => by
  match f, hs with
  | .next, ⟨σ1, H1, I1, q1⟩ => exact k pins s1 σ1 H1 D I1 q1
  | .brk, hs => exact hs
  | .cont, hs => exact hs
  | .ret v, hs => exact hs) fun _ _ z => z)
structure yU (X : Cx) (C : Addr) (me : Str) : Prop where
 ex : ∃ (f cda cc : Addr) (oc ccl cl : Value) (od cdd cld : Option Addr) (osl ccs csl : Array (Option Value)) (fd : FuncData) (ar : Arg) (vs : Array Value) (file : Str) (tf : Tok) (cd : ClassData),
  X.env.func = some f ∧ X.K.lookup f = some ⟨oc, od, .func fd, osl⟩ ∧ (fd.params.posonlyargs ++ fd.params.args).head? = some ar ∧ ar.arg = me ∧
  X.env.code = .ref cda ∧ X.K.lookup cda = some ⟨ccl, cdd, .fields vs, ccs⟩ ∧ vs[2]? = some (.str file tf) ∧ ((X.prog.main.file : Str) == file) = true ∧
  X.env.cells.lookup ("__class__" : Str) = some cc ∧ X.K.lookup cc = some ⟨cl, cld, .cell (some (.ref C)), csl⟩ ∧ PySem.W.clsIn X.K C = some cd ∧
  PySem.W.alongIn X.K "__init__" ((cd.mro.dropWhile (· != .ref C)).drop 1) = some (some (.builtin "ValueError.__init__"))
 sup : X.mg "super" = none
 mro : PySem.W.mroIn X.K C (.ref C) = some true
 vE : PySem.W.subIn X.K (.ref C) (.type "ValueError") = some true
 op : PySem.W.nsIn X.K cStatics "thirdparty.any" = some none
 ks : X.env.scope.names.lookup ("super" : Str) = some .globalImplicit
 kc : X.env.scope.names.lookup ("__class__" : Str) = some .free
 ka : X.env.scope.names.lookup me = some .local
 top : (X.prog.main.scope.names.lookup ("super" : Str)).isSome = false
 kind : X.env.scope.kind = .function
def uw (X : Cx) (C : Addr) (i : Nat) (ta : TA) : TS := fun D σ H => ∃ a, σ[i]? = some (some (.ref a)) ∧ H a = some (exo a C none) ∧ ta σ H fun vs H1 => H1 a = some (exo a C none) ∧ vs.length ≤ 1000 ∧ D.nx σ H1
theorem ub {X : Cx} {C : Addr} {me : Str} {i : Nat} {body : List Stmt} {e : Expr} {ta : TA} {p0 p1 apos cpos pos : Pos} (S : yU X C me) (T : OexC X.K C) (hN : X.N[i]? = some me) (ha : PA X [e] ta)
  (hs : ∀ env, swapsWith (.Call (.Attribute (.Call (.Name "super" p0) [] [] p1) "__init__" apos) [e] [] cpos) none pos.line env = pure false := by intro _; rfl)
  (he : starEach [e] X.env = (false, eval e X.env) :: starEach [] X.env := by rfl) (hpl : (backTo cpos (starEach [] X.env)).any (·.1) = false := by rfl)
  (hev : ∃ pl : Sem Bool, eval (.Call (.Attribute (.Call (.Name "super" p0) [] [] p1) "__init__" apos) [e] [] cpos) X.env = (do
   let ov ← attributeBase (.Call (.Name "super" p0) [] [] p1) "__init__" X.env (eval (.Call (.Name "super" p0) [] [] p1) X.env)
   standAt apos.atName
   let (f, first) ← holding [ov] (getMethod ov "__init__" pl)
   callWith cpos f first (backTo cpos (starEach [e] X.env)) []) := by exact ⟨_, rfl⟩) :
  yv X (.func body X.env) (.Expr (.Call (.Attribute (.Call (.Name "super" p0) [] [] p1) "__init__" apos) [e] [] cpos) pos) (uw X C i ta) := by
 intro pins s σ H D I h
 obtain ⟨a, ha0, hHa, hta⟩ := h
 obtain ⟨f, cda, cc, oc, ccl, cl, od, cdd, cld, osl, ccs, csl, fd, ar, vs, file, tf, cd, hfu, lf, hp, har, hco, lcd, hvs, hfile, hcl, lcc, hcd, hal⟩ := S.ex
 obtain ⟨pl, hev⟩ := hev
 have KX := I.kIn
 obtain ⟨t1, ho⟩ := exo_at I.hok hHa
 have hx2 : ∃ oD, s.heap.get? C = some oD ∧ oD.data = .cls cd := by
  unfold PySem.W.clsIn at hcd
  split at hcd
  ·rename_i c d cd' sl hk
   cases hcd
   exact ⟨_, KX _ _ hk, rfl⟩
  ·cases hcd
 obtain ⟨oD, hD1, hD2⟩ := hx2
 have IA : PySem.W.InstAt s.heap a ({ cls := .ref C, dict := none, data := .fields #[.ref t1, .none, .none, .none, .bool false, .none] } : Obj) C none := ⟨ho, rfl, rfl, trivial⟩
 refine PySem.ks_wpAt_Expr_any ?_ I.quiet (hs _)
 refine PySem.ks_wpAt_MethodCall (name := "__init__") (args := [e]) (pl := pl) ?_ hev
 refine PySem.ks_wpAt_super_base S.ks S.kc (by decide) hfu (KX _ _ lf) rfl hp hco (KX _ _ lcd) rfl hvs hfile S.top ?_
 obtain ⟨mb, b1, b2⟩ := I.mod.blt
 refine PySem.W.ks_loadName_global S.kind S.ks (Calls.loadGlobal_builtin (by rw [I.ok.glob]; exact I.mod.glob.keeps I.bk) S.sup (by rw [I.ok.blt]; exact b1.keeps I.bk) ((b2 "super" (by decide)).trans (show bootBuiltins "super" = some (.type "super") by decide +kernel)) ⟨rfl, ?_⟩)
 refine wpAny_loadName_free S.kind S.kc hcl ⟨_, KX _ _ lcc, rfl⟩ ?_
 obtain ⟨m, hns, hl⟩ := I.loc
 obtain ⟨u, ru, hu⟩ := hl i me (.ref a) hN ha0 (.inl S.ka)
 obtain rfl : u = .ref a := ru
 have hm : m ar.arg = some (.ref a) := by
  rw [har]
  rcases hu with ⟨_, hu⟩ | ⟨hu, _⟩
  ·exact hu
  ·have z : X.env.kindOf me = some .local := S.ka
   rw [z] at hu
   rcases hu with hu | hu <;> cases hu
 refine wpAny_loadName_local S.kind (by rw [har]; exact S.ka) hns hm ?_
 refine PySem.ks_wpAny_isType_cls hD1 hD2 ⟨rfl, ?_⟩
 obtain ⟨hh, g, d, t, os⟩ := s
 refine PySem.ks_wpAny_call_super hD1 hD2 ho rfl (fun c z => by cases z) (PySem.W.looks_mroIn KX S.mro) (fun h' so k => ?_)
 have J := I.kept (h' := h') (t' := t) k
 have KX' := J.kIn
 have ho' := k _ _ ho
 have IA' : PySem.W.InstAt h' a ({ cls := .ref C, dict := none, data := .fields #[.ref t1, .none, .none, .none, .bool false, .none] } : Obj) C none := ⟨ho', rfl, rfl, trivial⟩
 refine PySem.W.kxs_getMethod PySem.W.kxs_ValueError so (PySem.W.looks_opaque KX' S.op) (l₀ := cd.mro) (fun A Q E s k q => wpAny_bind ((PySem.W.looks_clsIn KX' hcd) A _ E s k (wpAny_pure q))) rfl KX' hal (IA'.type.andThen (PySem.W.looks_subIn KX' S.vE)) (PySem.W.ks_ne KX' IA' hcd) (by decide) ?_
 have k2 : ∀ b o, h'.get? b = some o → (h'.push (PySem.W.kxs_mw "ValueError.__init__" a)).get? b = some o := fun b o z => Heap.get?_push_of_some _ z
 have J2 := J.kept (h' := h'.push (PySem.W.kxs_mw "ValueError.__init__" a)) (t' := t + 1) k2
 have hmw : (h'.push (PySem.W.kxs_mw "ValueError.__init__" a)).get? h'.objs.size = some (PySem.W.kxs_mw "ValueError.__init__" a) := Heap.get?_push_at rfl rfl
 have fresh := J.hok.fresh (Nat.le_refl _)
 have J3 : Inv X (pins ++ [(h'.objs.size, PySem.W.kxs_mw "ValueError.__init__" a)]) σ H ⟨h'.push (PySem.W.kxs_mw "ValueError.__init__" a), g, d, t + 1, os⟩ := J2.pins_of fun p hp => by
  rcases List.mem_append.mp hp with hp | hp
  ·exact J2.pin p (List.mem_append_right _ hp)
  ·rw [List.mem_singleton] at hp
   subst hp
   refine ⟨hmw, fresh, Ne.symm (Nat.ne_of_lt J.lt), J.nofs (Nat.le_refl _), fun v z => by cases z⟩
 rw [he]
 refine PySem.W.kxs_callWith (i := "ValueError.__init__") (x := a) (by show (false || (backTo cpos (starEach [] X.env)).any (·.1)) = false; rw [hpl]; rfl) ?_
 refine Calls.evalArgs_plain ?_
 have q := ha.run cpos _ _ σ H _ J3 hta
 rw [he] at q
 refine thn q fun us s5 ⟨ws, H1, I1, r1, q1⟩ => ?_
 have P5 := (I1.pin (h'.objs.size, PySem.W.kxs_mw "ValueError.__init__" a) (List.mem_append_right _ (List.mem_append_right _ (List.mem_singleton_self _)))).1
 refine ⟨P5, ?_⟩
 have I6 : Inv X pins σ H1 s5 := I1.pins_of fun p hp => I1.pin p (List.mem_append_right _ (List.mem_append_left _ hp))
 refine uG T I6 q1.1 P5 (by show us.length ≤ sizeLine; rw [← Paired.length r1, sizeLine_eq]; exact Nat.le_trans q1.2.1 (by decide)) fun s7 J7 => ?_
 exact ⟨σ, H1, J7, q1.2.2⟩
end Q
namespace Q
open PySem PySem.Spec PyProof.Rows L2
open NdefX (NScope nscope_by zip_look)
structure kh (P : Program) (K : PySem.W.Frag) (x qual : Str) (st : Stmt) (dvs : List V) (C : Addr) (f cda cc : Addr) (fd : FuncData) : Prop where
 ex : ∃ (oc : Value) (od : Option Addr) (dV kV doc pm : Value) (an : Option Addr) (ct : Value) (osl : Array (Option Value)) (ccl cl : Value) (cdd cld : Option Addr) (ccs csl : Array (Option Value)) (vs : Array Value) (file : Str) (tf : Tok) (cd : ClassData),
  fd = PySem.W.fnX x qual (defArgs st) (defBody st) (defScope st) [("__class__", cc)] dV kV doc pm an (.ref cda) ct ∧ K.lookup f = some ⟨oc, od, .func fd, osl⟩ ∧ PySem.W.codeIn K (.ref cda) qual = true ∧ DflV K dV dvs ∧
  K.lookup cda = some ⟨ccl, cdd, .fields vs, ccs⟩ ∧ vs[2]? = some (.str file tf) ∧ ((P.main.file : Str) == file) = true ∧ K.lookup cc = some ⟨cl, cld, .cell (some (.ref C)), csl⟩ ∧ PySem.W.clsIn K C = some cd ∧
  PySem.W.alongIn K "__init__" ((cd.mro.dropWhile (· != .ref C)).drop 1) = some (some (.builtin "ValueError.__init__"))
 mro : PySem.W.mroIn K C (.ref C) = some true
 vE : PySem.W.subIn K (.ref C) (.type "ValueError") = some true
 op : PySem.W.nsIn K cStatics "thirdparty.any" = some none
 top : (P.main.scope.names.lookup ("super" : Str)).isSome = false
abbrev oA (qual : Str) (sc : Scope) (L f cda cc : Addr) : Env := PySem.W.envX qual sc L f (.ref cda) [("__class__", cc)]
def ecx (P : Program) (w : World) (K : PySem.W.Frag) (mg : Str → Option Value) (base : Heap) (N : List Str) (qual : Str) (sc : Scope) (f cda cc : Addr) (A : Around) (outer : List Env) (s : Shared) (H : Hp) : Cx where
 prog := P
 w := w
 K := K
 mg := mg
 base := base
 A := A.deeper (oA qual sc s.heap.objs.size f cda cc)
 N := N
 s_0 := s
 H_0 := H
 env := oA qual sc s.heap.objs.size f cda cc
 outer := outer
 stack := oA qual sc s.heap.objs.size f cda cc :: outer
 ex := []
 calm := true
 fn := fun _ => false
 pn := []
 xe := fun _ _ => False
section
variable {P : Program} {w : World} {K : PySem.W.Frag} {mg : Str → Option Value} {base : Heap} {N ps : List Str} {qual : Str} {sc : Scope} {f cda cc C : Addr} {A : Around} {outer : List Env} {s : Shared} {H : Hp} {us : List Value} {vs : List V}
theorem iD {c c' : Addr} {y : Str} (h : ([("__class__", c)] : List (Str × Addr)).lookup y = some c') : y = "__class__" ∧ c' = c := by
 rw [List.lookup_cons] at h
 cases e : (y == ("__class__" : Str)) with
 | true => rw [e] at h; cases h; exact ⟨beq_iff_eq.mp e, rfl⟩
 | false => rw [e] at h; cases h
theorem sA {h₁ : Heap} {tk : Nat} (S : NScope N ps ["__class__"] sc) (hd : A.handled = none) (e0 : Env0 P w K mg base A outer s H) (hl : vs.length = ps.length) (r : Vals vs us) (hH : H cc = none) (hc : s.heap.IsCell cc (some (.ref C))) (hns : h₁.Ns s.heap.objs.size fun y => (ps.zip us).reverse.lookup y)
  (kp : ∀ b o, s.heap.get? b = some o → h₁.get? b = some o) : L2.Inv (ecx P w K mg base N qual sc f cda cc A outer s H) [] (start N vs) H { s with heap := h₁, toks := tk } := by
 have hpl : ps.length + 1 ≤ N.length := by
  have q := congrArg List.length S.pre
  rw [List.length_take, List.length_append] at q
  simp only [List.length_singleton] at q
  omega
 have noA : ∀ b : Addr, b ∉ (ecx P w K mg base N qual sc f cda cc A outer s H).ex := fun b z => absurd (show b ∈ ([] : List Addr) from z) (by simp)
 have cellK : h₁.IsCell cc (some (.ref C)) := let ⟨o, ho, hd⟩ := hc; ⟨o, kp _ _ ho, hd⟩
 refine ⟨⟨e0.mod, S.kind, rfl, rfl, Nat.le_refl _, fun x y c h1 h2 => ?_, fun y hy => ?_, fun y c z _ => ?_, fun _ => hd, Around.frames_deeper e0.frames, .inr ⟨rfl, rfl⟩, fun b z => absurd z (noA b), e0.bs, e0.bsz, fun b _ _ => noA b,
   fun b z => absurd z (noA b), e0.funs, e0.frf⟩,
  rfl, e0.bare, Un.kept kp, ⟨_, hns, fun i y v e1 e2 e3 => ?_⟩, fun y c e => ?_, e0.hok.fresh (Nat.le_refl _), fun y c e => ?_, fun q hq => absurd (show q ∈ ([] : List (Addr × Obj)) ++ [] from hq) (by simp), e0.hok.kept kp, ?_⟩
 ·exact (iD h1).1.trans (iD h2).1.symm
 ·have hy : sc.names.lookup y = some .cell ∨ sc.names.lookup y = some .free := hy
  rcases hy with hy | hy
  ·exact absurd rfl (S.nocell _ (PySem.mem_of_lookup hy))
  ·have q := S.free _ (PySem.mem_of_lookup hy) rfl
   simp only [List.mem_singleton] at q
   subst q
   exact ⟨cc, rfl⟩
 ·have z : false = true := z
  cases z
 ·have e1 : N[i]? = some y := e1
  unfold L2.start at e2
  by_cases h1 : i < ps.length
  ·have hq : (ps ++ [("__class__" : Str)])[i]? = some y := by
    rw [← S.pre, List.getElem?_take_of_lt (by simp only [List.length_singleton]; omega)]
    exact e1
   rw [List.getElem?_append_left h1] at hq
   rw [List.getElem?_append_left (by rw [List.length_map]; omega), List.getElem?_map] at e2
   have ha : vs[i]? = some v := by
    cases e : vs[i]? with
    | none => rw [e] at e2; cases e2
    | some a => rw [e] at e2; cases e2; rfl
   obtain ⟨u, hu, rv⟩ := r.get ha
   have ndP : ps.Nodup := by
    have q := S.nd.sublist (List.take_sublist (ps.length + [("__class__" : Str)].length) N)
    rw [S.pre] at q
    exact (List.nodup_append.mp q).1
   exact ⟨u, rv, .inl ⟨S.par y (List.mem_of_getElem? hq), zip_look ndP hq hu⟩⟩
  ·rw [List.getElem?_append_right (by rw [List.length_map]; omega), List.getElem?_replicate] at e2
   split at e2 <;> cases e2
 ·obtain ⟨_, rfl⟩ := iD e
  exact ⟨_, cellK⟩
 ·obtain ⟨_, rfl⟩ := iD e
  exact hH
 ·unfold L2.start
  show _ = N.length
  rw [List.length_append, List.length_map, List.length_replicate]
  omega
theorem yu {x qual : Str} {st : Stmt} {dvs : List V} {f cda cc : Addr} {fd : FuncData} {k : Nat} {sp : Sp} (F : kh P K x qual st dvs C f cda cc fd) (S : NScope N ps ["__class__"] (defScope st)) (len : ∀ {vs H Q E}, sp vs H Q E → vs.length = ps.length)
  (hbody : ∀ (A : Around) (outer : List Env) (s : Shared) (H : Hp) (vs : List V) (Q : VK) (E : XK), Room k (A.deeper (oA qual (defScope st) s.heap.objs.size f cda cc)) → cR A → sp vs H Q E →
   ∃ t, PSa (ecx P w K mg base N qual (defScope st) f cda cc A outer s H) (.func (defBody st) (oA qual (defScope st) s.heap.objs.size f cda cc)) (defBody st) t ∧ t { nx := fun _ H' => Q .non H', rt := Q } (start N vs) H) :
  FnG P w K mg base CX0 (k + 1) f fd ps sp := by
 obtain ⟨oc, od, dV, kV, doc, pm, an, ct, osl, ccl, cl, cdd, cld, ccs, csl, ys, file, tf, cd, rfl, lk, hcd, _, lcd, _, _, lcc, _, _⟩ := F.ex
 refine ⟨len, fun {A outer s H args us vs Q E} hr hg e0 hb r hsp => ?_⟩
 have hl := len hsp
 have keep : ∀ b o, base.get? b = some o → s.heap.get? b = some o := fun b o e => (e0.bs b o e).1
 have KX : K.In s.heap := e0.mod.kin.keeps keep
 have lim : s.heap.NoLimit := e0.mod.nolimit.keeps keep
 refine codeAny_call_function hr.depth (KX _ _ lk) rfl S.co S.gen rfl (PySem.W.codeRec_of KX hcd) (hb _ _ _ _ ?_)
 refine wpAny_newFunctionEnv S.nocell (fun ⟨n, _⟩ hy => S.par n (List.of_mem_zip hy).1) (fun h₁ hns hsb => ⟨lim.fresh _ hsb, ?_⟩) S.kind
 show codeAny _ _ (.func (defBody st) (oA qual (defScope st) s.heap.objs.size f cda cc)) _ _
 refine PySem.ks_codeAny_funcAt ?_
 have kp : ∀ b o, s.heap.get? b = some o → h₁.get? b = some o := fun b o e => hsb.extBut b o (Nat.ne_of_lt (Heap.lt_size e)) (Heap.get?_push_of_some _ e)
 obtain ⟨t, ht, hq⟩ := hbody A outer s H vs Q E (hr.deeper _) hg hsp
 have hcc := e0.bs cc _ (e0.mod.kin _ _ lcc)
 have I := sA (f := f) (cda := cda) (qual := qual) (tk := s.toks + (ps.zip us).length) S hr.hd e0 hl r hcc.2 ⟨_, hcc.1, rfl⟩ hns kp
 refine PySem.ks_wpAt_mono (ht [] _ (start N vs) H _ I hq) (fun fl s' hs => ?_) fun e s' hs => hs.elim
 have fin : ∀ {σ' : L2.St} {H' : Hp} {v : V} {u : Value}, L2.Inv (ecx P w K mg base N qual (defScope st) f cda cc A outer s H) [] σ' H' s' → L2.RelV v u → Q v H' → CE outer P w H s Q u s' :=
  fun {σ' H' v u} J rv q => ⟨v, H', J.os, J.bare, J.base, J.hok, rv, q⟩
 cases fl with
 | ret u =>
  obtain ⟨v, σ', H', J, rv, q⟩ := hs
  exact fin J rv q
 | next =>
  obtain ⟨σ', H', J, q⟩ := hs
  exact fin (v := V.non) (u := Value.none) J rfl q
 | brk =>
  obtain ⟨_, _, _, q⟩ := hs
  exact False.elim q
 | cont =>
  obtain ⟨_, _, _, q⟩ := hs
  exact False.elim q
end
end Q
namespace Q
open PySem PySem.Spec PyProof.Rows L2
open NdefX (NScope nscope_by zip_look)
def iA (K : PySem.W.Frag) : List (Str × Nat) → TS
 | [] => tNext
 | p :: r => tSeq (tOst K p.1 (tVar 0) (tVar p.2)) (iA K r)
def rN : List (Str × Nat) → List V → List (Str × V) → List (Str × V)
 | p :: fs, u :: us, acc => rN fs us ((p.1, u) :: acc)
 | _, _, acc => acc
theorem qY {α β : Type} : ∀ {a c : List α} {b d : List β}, a.length = b.length → (a ++ c).zip (b ++ d) = a.zip b ++ c.zip d
 | [], c, [], d, _ => rfl
 | x :: a, c, y :: b, d, h => by
  simp only [List.cons_append, List.zip_cons_cons]
  rw [qY (by simpa using h)]
theorem qM : ∀ (fs : List (Str × Nat)) (us : List V) (acc : List (Str × V)), us.length = fs.length → rN fs us acc = (fs.map (·.1)).reverse.zip us.reverse ++ acc
 | [], [], acc, _ => rfl
 | p :: fs, u :: us, acc, h => by
  unfold rN
  rw [qM fs us _ (by simpa using h), List.map_cons, List.reverse_cons, List.reverse_cons, qY (by simp only [List.length_reverse, List.length_map]; simpa using h.symm), List.append_assoc]
  rfl
section
variable {K : PySem.W.Frag} {C a dx : Addr} {σ : L2.St} {D : Ends}
theorem pX (T : OexC K C) (h0 : σ[0]? = some (some (.ref a))) : ∀ (fs : List (Str × Nat)) (us : List V) (acc : List (Str × V)) (H : Hp), (∀ p ∈ fs, PySem.W.findIn K (.ref C) p.1 = some none) → us.length = fs.length →
  (∀ (i : Nat) (p : Str × Nat) (u : V), fs[i]? = some p → us[i]? = some u → σ[p.2]? = some (some u)) → H a = some (exo a C (some dx)) → H dx = some (exd dx acc) → dx ≠ a → acc.length + fs.length ≤ 900 →
  (∀ H2, H2 a = some (exo a C (some dx)) → H2 dx = some (exd dx (rN fs us acc)) → (∀ b, b ≠ dx → H2 b = H b) → D.nx σ H2) → iA K fs D σ H
 | [], [], acc, H, _, _, _, ha, hd, _, _, k => k H ha hd fun _ _ => rfl
 | p :: fs, u :: us, acc, H, hf, hl, hs, ha, hd, hne, hz, k => by
  refine ⟨u, hs 0 p u rfl rfl, .ref a, h0, a, C, rfl, T, hf p List.mem_cons_self, .inr ⟨dx, acc, ha, hd, by simp only [List.length_cons] at hz; omega, ?_⟩⟩
  refine pX T h0 fs us ((p.1, u) :: acc) _ (fun q hq => hf q (List.mem_cons_of_mem _ hq)) (by simpa using hl) (fun i q v e1 e2 => hs (i + 1) q v (by simpa using e1) (by simpa using e2)) (by rw [upd_ne (Ne.symm hne)]; exact ha) upd_same hne (by simp only [List.length_cons] at hz ⊢; omega) fun H2 q1 q2 q3 => ?_
  exact k H2 q1 q2 fun b hb => by rw [q3 b hb, upd_ne hb]
theorem sM (T : OexC K C) (h0 : σ[0]? = some (some (.ref a))) {fs : List (Str × Nat)} {us : List V} {H : Hp} (hne : fs ≠ []) (hf : ∀ p ∈ fs, PySem.W.findIn K (.ref C) p.1 = some none) (hl : us.length = fs.length)
  (hs : ∀ (i : Nat) (p : Str × Nat) (u : V), fs[i]? = some p → us[i]? = some u → σ[p.2]? = some (some u)) (ha : H a = some (exo a C none)) (hz : fs.length ≤ 900)
  (k : ∀ dx H2, H dx = none → dx ≠ a → H2 a = some (exo a C (some dx)) → H2 dx = some (exd dx ((fs.map (·.1)).reverse.zip us.reverse)) → (∀ b, b ≠ a → b ≠ dx → H2 b = H b) → D.nx σ H2) : iA K fs D σ H := by
 match fs, us, hl, hne with
 | p :: fs, u :: us, hl, _ =>
  refine ⟨u, hs 0 p u rfl rfl, .ref a, h0, a, C, rfl, T, hf p List.mem_cons_self, .inl ⟨ha, fun dx hd hda => ?_⟩⟩
  refine pX T h0 fs us [(p.1, u)] _ (fun q hq => hf q (List.mem_cons_of_mem _ hq)) (by simpa using hl) (fun i q v e1 e2 => hs (i + 1) q v (by simpa using e1) (by simpa using e2)) upd_same (by rw [upd_ne hda, upd_same]) hda (by simp only [List.length_cons, List.length_nil] at hz ⊢; omega) fun H2 q1 q2 q3 => ?_
  refine k dx H2 hd hda q1 ?_ fun b h1 h2 => by rw [q3 b h2, upd_ne h1, upd_ne h2]
  have e := qM (p :: fs) (u :: us) [] hl
  rw [List.append_nil] at e
  rw [q2, ← e]
  rfl
end
def oW (K : PySem.W.Frag) (cl : String → Option Addr) (C : Addr) (n : Nat) (fs : List (Str × Nat)) (mk : List D → Option (List D)) : Sp := fun vs H Q _ => vs.length = n + 1 ∧ ∃ (a : Addr) (ws : List V) (I : Hp) (ds gds : List D),
 vs = .ref a :: ws ∧ H a = some (exo a C none) ∧ Same I H ∧ (∀ b, a9 cl b → I b = none ∧ GxR.TabG H b ∧ ∃ o, H b = some o) ∧ aI K cl I ds ws ∧ mk ds = some gds ∧
 ∀ (dx : Addr) (I2 H2 H3 : Hp) (us : List V), Same I I2 → Same I2 H2 → (∀ b o, H b = some o → ¬ a9 cl b → H2 b = some o) → (∀ b o, H b = some o → I b = none → I2 b = none) → (∀ b, a9 cl b → GxR.TabG H2 b) → aI K cl I2 gds us →
  H2 dx = none → dx ≠ a → H3 a = some (exo a C (some dx)) → H3 dx = some (exd dx ((fs.map (·.1)).reverse.zip us.reverse)) → (∀ b, b ≠ a → b ≠ dx → H3 b = H2 b) → Q .non H3
theorem aI.ofSlots {K : PySem.W.Frag} {cl : String → Option Addr} {g : G} {env : En} {σ : L2.St} {I I2 H : Hp} (R : SR K cl g env σ I H) (s : Same I I2) : ∀ {fs : List (Str × Nat)} {gds : List D}, gds.length = fs.length → (∀ (i : Nat) (p : Str × Nat) (g : D), fs[i]? = some p → gds[i]? = some g → env[p.2]? = some (.imm g)) →
  ∃ us : List V, aI K cl I2 gds us ∧ us.length = fs.length ∧ ∀ (i : Nat) (p : Str × Nat) (u : V), fs[i]? = some p → us[i]? = some u → σ[p.2]? = some (some u)
 | [], [], _, _ => ⟨[], .nil, rfl, fun i p u h => by simp at h⟩
 | p :: fs, g :: gds, hl, h => by
  obtain ⟨us, r, hu, hs⟩ := aI.ofSlots R s (fs := fs) (gds := gds) (by simpa using hl) fun i p g e1 e2 => h (i + 1) p g (by simpa using e1) (by simpa using e2)
  obtain ⟨x, e1, v, rfl, rv⟩ := R.at_ _ _ (h 0 p g rfl rfl)
  refine ⟨v :: us, .cons (rv.mono s) r, by simp [hu], fun i q u e2 e3 => ?_⟩
  cases i with
  | zero => cases e2; cases e3; exact e1
  | succ i => exact hs i q u (by simpa using e2) (by simpa using e3)
section
variable {Z : Zc}
theorem tG {X : Cx} {C a : Addr} {te : TE} {marg : ME} {fs : List (Str × Nat)} {gds : List D} {env1 env2 : En} {d : D} {σ1 : L2.St} {I H I1 H1 : Hp} {D : Ends} (hX : X.K = Z.K) (ht : SE Z te marg) (T : OexC Z.K C) (hne : fs ≠ []) (hf : ∀ p ∈ fs, PySem.W.findIn Z.K (.ref C) p.1 = some none) (hz : fs.length ≤ 900)
  (ha : H a = some (exo a C none)) (nt : ¬ a9 Z.cl a) (R : SR Z.K Z.cl ⟨I, H, [], []⟩ env1 σ1 I1 H1) (he0 : env1[0]? = some (.imm (.adr a))) (hm : marg env1 = some (d, env2)) (hl : gds.length = fs.length) (hg : ∀ (i : Nat) (p : Str × Nat) (g : Q.D), fs[i]? = some p → gds[i]? = some g → env1[p.2]? = some (.imm g))
  (k : ∀ (dx : Addr) (I2 H2 H3 : Hp) (us : List V), Same I I2 → Same I2 H2 → (∀ b o, H b = some o → ¬ a9 Z.cl b → H2 b = some o) → (∀ b o, H b = some o → I b = none → I2 b = none) → (∀ b, a9 Z.cl b → GxR.TabG H2 b) → aI Z.K Z.cl I2 gds us →
   H2 dx = none → dx ≠ a → H3 a = some (exo a C (some dx)) → H3 dx = some (exd dx ((fs.map (·.1)).reverse.zip us.reverse)) → (∀ b, b ≠ a → b ≠ dx → H3 b = H2 b) → D.nx σ1 H3) : tSeq (uw X C 0 (tCons te tNil)) (iA Z.K fs) D σ1 H1 := by
 obtain ⟨x, e1, v, rfl, rv⟩ := R.at_ _ _ he0
 have hv : v = .ref a := by
  cases rv with
  | adr => rfl
  | obj _ q => cases q
 subst hv
 ·refine ⟨a, e1, R.h0 a _ ha (fun z => nomatch z) nt, ?_⟩
  refine ht _ env1 σ1 I1 H1 _ d env2 R hm fun v I2 H2 R2 s2 rv => ⟨R2.h0 a _ ha (fun z => nomatch z) nt, Nat.le_of_ble_eq_true rfl, ?_⟩
  obtain ⟨us, r, hu, hs⟩ := aI.ofSlots R s2 hl hg
  refine sM T e1 hne hf hu hs (R2.h0 a _ ha (fun z => nomatch z) nt) hz fun dx H3 q1 q2 q3 q4 q5 => ?_
  exact k dx I2 H2 H3 us R2.i0 R2.sub (fun b o h n => R2.h0 b o h (fun z => nomatch z) n) (fun b o h n => R2.hi b o h n) (fun b hb => (R2.tb b hb).2.1) r q1 q2 q3 q4 q5
end
end Q
namespace Q
open PySem PySem.Spec PyProof.Rows L2
open NdefX (NScope nscope_by zip_look)
section
variable {P : Program} {w : World} {K : PySem.W.Frag} {mg : Str → Option Value} {base : Heap} {cl : String → Option Addr} {N ps : List Str} {qual me : Str} {st : Stmt} {dvs : List V} {C f cda cc : Addr} {fd : FuncData} {k n : Nat} {fs : List (Str × Nat)} {mk : List D → Option (List D)}
abbrev ZE (P : Program) (w : World) (K : PySem.W.Frag) (mg : Str → Option Value) (base : Heap) (N : List Str) (sc : Scope) (k : Nat) (cl : String → Option Addr) : Zc := ⟨P, w, K, mg, base, N, sc, k, cl, false, none⟩
theorem xG {A : Around} {outer : List Env} {s : Shared} {H : Hp} {ar : Arg} (F : kh P K "__init__" qual st dvs C f cda cc fd) (S : NScope N ps ["__class__"] (defScope st)) (hp : ((defArgs st).posonlyargs ++ (defArgs st).args).head? = some ar) (har : ar.arg = me) (hN : N[0]? = some me) (hps : ps ≠ [])
  (hsup : mg "super" = none) (hks : (defScope st).names.lookup ("super" : Str) = some .globalImplicit) (hkc : (defScope st).names.lookup ("__class__" : Str) = some .free) : yU (ecx P w K mg base N qual (defScope st) f cda cc A outer s H) C me := by
 obtain ⟨oc, od, dV, kV, doc, pm, an, ct, osl, ccl, cl, cdd, cld, ccs, csl, ys, file, tf, cd, rfl, lk, hcd, _, lcd, hys, hfile, lcc, hCd, hal⟩ := F.ex
 refine ⟨⟨f, cda, cc, oc, ccl, cl, od, cdd, cld, osl, ccs, csl, _, ar, ys, file, tf, cd, rfl, lk, hp, har, rfl, lcd, hys, hfile, rfl, lcc, hCd, hal⟩, hsup, F.mro, F.vE, F.op, hks, hkc, S.par me ?_, F.top, S.kind⟩
 match ps, hps with
 | p :: ps, _ =>
  have q := S.pre
  have z : (p :: ps ++ [("__class__" : Str)])[0]? = some me := by
   rw [← q, List.getElem?_take_of_lt (by simp only [List.length_cons, List.length_nil]; omega)]; exact hN
  simp only [List.cons_append, List.getElem?_cons_zero, Option.some.injEq] at z
  subst z
  exact List.mem_cons_self
theorem tK {a : Addr} {ws : List V} {ds : List D} {I H : Hp} (hs : Same I H) (ht : ∀ b, a9 cl b → I b = none ∧ GxR.TabG H b ∧ ∃ o, H b = some o) (r : aI K cl I ds ws) :
  SR K cl ⟨I, H, [], []⟩ (.imm (.adr a) :: ds.map .imm ++ List.replicate (N.length - (ds.length + 1)) .un) (L2.start N (.ref a :: ws)) I H := by
 have hl := r.length
 refine ⟨hs, Same.refl _, fun a o h _ _ => h, fun a o _ h => h, fun a ha => (nomatch ha), ?_, fun i s h => ?_, fun i j s s' b _ h1 h2 m1 m2 => ?_, fun b o h => (nomatch h), fun b o h => (nomatch h), ht⟩
 ·unfold L2.start; simp [hl]
 ·cases i with
  | zero => cases h; exact ⟨_, rfl, .ref a, rfl, .adr⟩
  | succ i =>
   unfold L2.start
   simp only [List.cons_append, List.getElem?_cons_succ, List.map_cons, List.length_cons] at h ⊢
   by_cases hi : i < ds.length
   ·rw [List.getElem?_append_left (by simpa using hi), List.getElem?_map] at h
    obtain ⟨d, e1, rfl⟩ := Option.map_eq_some_iff.mp h
    obtain ⟨v, e2, rv⟩ := r.get e1
    exact ⟨some v, by rw [List.getElem?_append_left (by rw [List.length_map]; omega), List.getElem?_map, e2]; rfl, v, rfl, rv⟩
   ·rw [List.getElem?_append_right (by simpa using hi), List.getElem?_replicate] at h
    split at h
    ·rename_i hj
     cases h
     rw [List.length_map] at hj
     exact ⟨none, by rw [List.getElem?_append_right (by rw [List.length_map]; omega), List.getElem?_replicate, List.length_map, if_pos (by omega)], trivial⟩
    ·cases h
 ·have : ∀ (q : Nat) (s : Sl), (Sl.imm (.adr a) :: ds.map .imm ++ List.replicate (N.length - (ds.length + 1)) .un)[q]? = some s → s.mut = false := fun q s h => by
   have hm := List.mem_of_getElem? h
   simp only [List.cons_append, List.mem_cons, List.mem_append, List.mem_map, List.mem_replicate] at hm
   rcases hm with rfl | ⟨d, _, rfl⟩ | ⟨_, rfl⟩ <;> rfl
  rw [this i s h1] at m1; cases m1
theorem wM {e : Expr} {flds : List Stmt} {p0 p1 apos cpos pos : Pos} {marg : ME} {ar : Arg} (F : kh P K "__init__" qual st dvs C f cda cc fd) (S : NScope N ps ["__class__"] (defScope st)) (hps : ps.length = n + 1) (hp : ((defArgs st).posonlyargs ++ (defArgs st).args).head? = some ar) (har : ar.arg = me) (hN : N[0]? = some me)
  (hsup : mg "super" = none) (hks : (defScope st).names.lookup ("super" : Str) = some .globalImplicit) (hkc : (defScope st).names.lookup ("__class__" : Str) = some .free) (T : OexC K C) (hne : fs ≠ []) (hf : ∀ p ∈ fs, PySem.W.findIn K (.ref C) p.1 = some none) (hz : fs.length ≤ 900)
  (hb : defBody st = .Expr (.Call (.Attribute (.Call (.Name "super" p0) [] [] p1) "__init__" apos) [e] [] cpos) pos :: flds) (harg : EV (ZE P w K mg base N (defScope st) k cl) e marg) (hfl : ∀ X, InF (ZE P w K mg base N (defScope st) k cl) X → PSs X flds (iA K fs))
  (hs : ∀ env, swapsWith (.Call (.Attribute (.Call (.Name "super" p0) [] [] p1) "__init__" apos) [e] [] cpos) none pos.line env = pure false) (he : ∀ env, starEach [e] env = (false, eval e env) :: starEach [] env) (hpl : ∀ env, (backTo cpos (starEach [] env)).any (·.1) = false)
  (hev : ∀ env, ∃ pl : Sem Bool, eval (.Call (.Attribute (.Call (.Name "super" p0) [] [] p1) "__init__" apos) [e] [] cpos) env = (do
   let ov ← attributeBase (.Call (.Name "super" p0) [] [] p1) "__init__" env (eval (.Call (.Name "super" p0) [] [] p1) env)
   standAt apos.atName
   let (f, first) ← holding [ov] (getMethod ov "__init__" pl)
   callWith cpos f first (backTo cpos (starEach [e] env)) []))
  (hmk : ∀ ds gds, mk ds = some gds → ds.length = n ∧ gds.length = fs.length ∧ ∀ a, ∃ d env2, marg (.imm (.adr a) :: ds.map .imm ++ List.replicate (N.length - (ds.length + 1)) .un) = some (d, env2) ∧
   ∀ (i : Nat) (p : Str × Nat) (g : D), fs[i]? = some p → gds[i]? = some g → (Sl.imm (.adr a) :: ds.map .imm ++ List.replicate (N.length - (ds.length + 1)) .un)[p.2]? = some (.imm g)) : FnG P w K mg base CX0 (k + 1) f fd ps (oW K cl C n fs mk) := by
 refine yu (C := C) F S (fun h => by rw [hps]; exact h.1) fun A outer s H vs Q E hr hg hsp => ?_
 obtain ⟨hl, a, ws, I, ds, gds, rfl, ha, hIH, htb, rs, hm, kk⟩ := hsp
 obtain ⟨t, t1, t2⟩ := harg
 obtain ⟨h1, h2, h3⟩ := hmk ds gds hm
 obtain ⟨d, env2, h4, h5⟩ := h3 a
 have SC := xG (w := w) (base := base) (A := A) (outer := outer) (s := s) (H := H) F S hp har hN (by intro z; rw [z] at hps; cases hps) hsup hks hkc
 have IF : InF (ZE P w K mg base N (defScope st) k cl) (ecx P w K mg base N qual (defScope st) f cda cc A outer s H) := ⟨rfl, rfl, rfl, rfl, rfl, rfl, rfl, rfl, hr, S.nd, (by intro z; cases z), PassesOwn.never, hg, (by intro c P z; cases z)⟩
 have nt : ¬ a9 cl a := fun z => by
  obtain ⟨_, ⟨ps, q, _⟩, _⟩ := htb a z
  rw [ha] at q
  exact exo_tbl (Option.some.inj q)
 rw [hb]
 refine ⟨tSeq (uw _ C 0 (tCons t tNil)) (iA K fs), uI (ub SC T hN (pa_cons (t1 _ IF) pa_nil (he _)) (hs := hs) (he := he _) (hpl := hpl _) (hev := hev _)) (yr (hfl _ IF)), ?_⟩
 refine tG (Z := ZE P w K mg base N (defScope st) k cl) (X := ecx P w K mg base N qual (defScope st) f cda cc A outer s H) rfl t2 T hne hf hz ha nt (tK hIH htb rs) rfl h4 h2 h5 fun dx I2 H2 H3 us q1 q2 q3 q4 q5 q6 q7 q8 q9 q10 q11 => kk dx I2 H2 H3 us q1 q2 q3 q4 q5 q6 q7 q8 q9 q10 q11
end
end Q
namespace Q
open PySem PySem.Spec PyProof.Rows L2
section
variable {X : Cx} {x : Str} {C fI : Addr} {k : Nat} {fd : FuncData} {ps : List Str} {sp : Sp} {ds : List Value} {dvs : List V} {e : Expr} {es : List Expr} {ta : TA} {p pos : Pos}
theorem x5 (T : OexC X.K C) (iC : PySem.W.findIn X.K (.ref C) "__init__" = some (some (.ref fI))) (tI : PySem.W.typeIn X.K (.ref fI) = some (.type "function"))
  (F1 : FnG X.prog X.w X.K X.mg X.base CX0 k fI fd ps sp) (hr : Room (k + 1) X.A) (gd : cR X.A) (hb : Binds X.K fd ps ds) (hd : Vals dvs ds) (hg : Gl X x) (hm : X.mg x = some (.ref C)) (ha : PA X (e :: es) ta)
  (hdb : (x == ("__debug__" : Str)) = false) (he : starEach (e :: es) X.env = (false, eval e X.env) :: starEach es X.env) (hpl : (backTo pos (starEach es X.env)).any (·.1) = false) :
  L2.PMk X (.Call (.Name x p) (e :: es) [] pos) (tMkO C sp dvs ta) := by
 intro pins s σ H Q I h
 obtain ⟨nm, q, N, bs, bm, sn, sub, ab, col, dd, k0, k1, k2, k3, k5, hC, hbm⟩ := T.cls
 refine wpAny_Call_Name_kw (ld_glob I hg hm ?_ hdb)
 refine PySem.W.callWith_K (h₀ := X.base) I.ok.mod.kin T.kC (thn (ha.run pos pins s σ H _ I h) fun us s1 ⟨vs, H1, I1, r1, hz, q1⟩ => ⟨I1.kIn, ?_⟩) he hpl
 show wpAny _ _ (call (.ref C) us) _ _ _
 obtain ⟨hp, g, dr, tk, os⟩ := s1
 have hsz : hp.objs.size ≤ hp.objs.size + 1 := Nat.le_succ _
 have hn : H1 (hp.objs.size + 1) = none := I1.hok.fresh hsz
 have hq := q1 (hp.objs.size + 1) hn
 have kk : ∀ b o, hp.get? b = some o → ((hp.push (PySem.W.kdv_tup us)).push (PySem.HandSPX.excO C hp.objs.size)).get? b = some o := fun b o e => Heap.get?_push_of_some _ (Heap.get?_push_of_some _ e)
 have hget : ((hp.push (PySem.W.kdv_tup us)).push (PySem.HandSPX.excO C hp.objs.size)).get? (hp.objs.size + 1) = some (PySem.HandSPX.excO C hp.objs.size) := by heap_get
 have I2 : L2.Inv X pins σ (upd H1 (hp.objs.size + 1) (exo (hp.objs.size + 1) C none)) ⟨(hp.push (PySem.W.kdv_tup us)).push (PySem.HandSPX.excO C hp.objs.size), g, dr, tk, os⟩ :=
  I1.laid (t' := tk) (a := hp.objs.size + 1) (o := exo (hp.objs.size + 1) C none) (h' := (hp.push (PySem.W.kdv_tup us)).push (PySem.HandSPX.excO C hp.objs.size)) kk hsz (exo_ok hget)
 have r2 : Vals (V.ref (hp.objs.size + 1) :: (vs ++ dvs)) (Value.ref (hp.objs.size + 1) :: (us ++ ds)) := .cons rfl (r1.append hd)
 have hl : (Value.ref (hp.objs.size + 1) :: us ++ ds).length = ps.length := by
  have e := r2.length
  rw [F1.ar hq] at e
  exact e.symm
 have hus : us.length ≤ sizeLine := by
  rw [← Paired.length r1, sizeLine_eq]
  omega
 refine wpAny_call (PySem.HandSPX.call_own PySem.F.excBase_ValueError (fun Y => PySem.HandSPX.refsVE_contains Y bm hbm) (I1.kIn _ _ hC) (PySem.W.looks_findIn I1.kIn iC) (fun self => PySem.W.bind_fn I1.kIn self tI) hus
  (codeAny_mono (F1.go (args := ⟨Value.ref (hp.objs.size + 1) :: us, []⟩) (us := Value.ref (hp.objs.size + 1) :: (us ++ ds)) (E := fun _ _ _ => False) (hr.make C us []) (rV gd C us []) (I2.env0.make C us []) (hb _ (Value.ref (hp.objs.size + 1) :: us) I2.kIn hl) r2 hq) fun r s' hq' => ?_))
 cases r with
 | error er => exact hq'.elim
 | ok fl =>
  cases fl with
  | ret u =>
   obtain ⟨v, H2, os2, bare2, un2, hok2, rv, ev, d, fs, ea, ed, hd1, q2⟩ := hq'
   subst ev
   obtain ⟨h2, g2, d2, t2, os'⟩ := s'
   exact ⟨rv, mk_end (L2.raises_own T.exC T.tyC) I1 hsz kk un2 hok2 os2 bare2 ea ed hd1 q2⟩
  | next => exact False.elim hq'
  | brk => exact False.elim hq'
  | cont => exact False.elim hq'
end
theorem aI.app2 {K : PySem.W.Frag} {cl : String → Option Addr} {I : Hp} : ∀ {ds es : List D} {vs us : List V}, aI K cl I ds vs → aI K cl I es us → aI K cl I (ds ++ es) (vs ++ us)
 | _, _, _, _, .nil, s => s
 | _, _, _, _, .cons r t, s => .cons r (aI.app2 t s)
theorem aI.rev {K : PySem.W.Frag} {cl : String → Option Addr} {I : Hp} : ∀ {ds : List D} {vs : List V}, aI K cl I ds vs → aI K cl I ds.reverse vs.reverse
 | _, _, .nil => .nil
 | _, _, .cons r t => by
  rw [List.reverse_cons, List.reverse_cons]
  exact aI.app2 (aI.rev t) (.cons r .nil)
structure zC (Z : Zc) (x : Str) (c : String) (n : Nat) (dd : List D) (ks : List Str) (mk : List D → Option (List D)) : Prop where
 ex : ∃ (k : Nat) (C fI : Addr) (fd : FuncData) (ps : List Str) (fs : List (Str × Nat)) (dvs : List V) (ds : List Value), k + 1 ≤ Z.k ∧ Z.cl c = some C ∧ Z.mg x = some (.ref C) ∧ OexC Z.K C ∧ PySem.W.findIn Z.K (.ref C) "__init__" = some (some (.ref fI)) ∧ PySem.W.typeIn Z.K (.ref fI) = some (.type "function") ∧
  FnG Z.P Z.w Z.K Z.mg Z.base CX0 k fI fd ps (oW Z.K Z.cl C n fs mk) ∧ Binds Z.K fd ps ds ∧ Vals dvs ds ∧ (∀ I, aI Z.K Z.cl I dd dvs) ∧ ks = (fs.map (·.1)).reverse ∧ ∀ ds gds, mk ds = some gds → gds.length = fs.length
structure MkE (c : Pc) (k : Nat) (x : Str) (cn : String) (n : Nat) (dd : List D) (ks : List Str) (mk : List D → Option (List D)) : Prop where
 ex : ∃ (C fI : Addr) (fd : FuncData) (ps : List Str) (fs : List (Str × Nat)) (dvs : List V) (ds : List Value), c.cl cn = some C ∧ c.mg x = some (.ref C) ∧ OexC c.K C ∧ PySem.W.findIn c.K (.ref C) "__init__" = some (some (.ref fI)) ∧ PySem.W.typeIn c.K (.ref fI) = some (.type "function") ∧
  FnG c.P c.w c.K c.mg c.base CX0 k fI fd ps (oW c.K c.cl C n fs mk) ∧ Binds c.K fd ps ds ∧ Vals dvs ds ∧ (∀ I, aI c.K c.cl I dd dvs) ∧ ks = (fs.map (·.1)).reverse ∧ ∀ ds gds, mk ds = some gds → gds.length = fs.length
theorem MkE.z {c : Pc} {j k n : Nat} {x : Str} {cn : String} {dd : List D} {ks : List Str} {mk : List D → Option (List D)} {N : List Str} {sc : Scope} {me : Option (Addr × Addr)} (F : MkE c j x cn n dd ks mk) (h : j + 1 ≤ k) : zC (c.z k N sc me) x cn n dd ks mk :=
 let ⟨C, fI, fd, ps, fs, dvs, ds, q1, q2, q3, q4, q5, q6, q7, q8, q9, q10, q11⟩ := F.ex; ⟨j, C, fI, fd, ps, fs, dvs, ds, h, q1, q2, q3, q4, q5, q6, q7, q8, q9, q10, q11⟩
section
variable {Z : Zc}
def nC (c : String) (n : Nat) (dd : List D) (ks : List Str) (mk : List D → Option (List D)) (a : MAC) : MSC := fun M env => (a M env).bind fun p => (fixes p.1).bind fun ds => if (ds ++ dd).length = n ∧ ds.length ≤ 1000 then (mk (ds ++ dd)).map fun gds => .exc c ks (gds.reverse.map .fix) p.2 env else none
theorem ua {x : Str} {c : String} {n : Nat} {dd : List D} {ks : List Str} {mk : List D → Option (List D)} {e : Expr} {es : List Expr} {a : MAC} {p cpos pos : Pos} (F : zC Z x c n dd ks mk) (hg : GlZ Z x) (ha : CAV Z (e :: es) a) (hdb : (x == ("__debug__" : Str)) = false := by decide)
  (he : ∀ env, starEach (e :: es) env = (false, eval e env) :: starEach es env := by intro _; rfl) (hpl : ∀ env, (backTo cpos (starEach es env)).any (·.1) = false := by intro _; rfl) :
  CSV Z (.Raise (some (.Call (.Name x p) (e :: es) [] cpos)) none pos) (nC c n dd ks mk a) := by
 obtain ⟨kk, C, fI, fd, ps, fs, dvs, dsv, hk, hC, hm, T, iC, tI, F1, hb, hd, hdd, hks, hgl⟩ := F.ex
 obtain ⟨t, a1, a2⟩ := ha
 refine ⟨fun W D σ H => tMkO C (oW Z.K Z.cl C n fs mk) dvs t σ H fun cls d H' => W cls d σ H', fun X W i tk => L2.ps_raise i.calm tk (x5 (k := kk) (fI := fI) (fd := fd) (ps := ps) (by rw [i.K]; exact T) (by rw [i.K]; exact iC) (by rw [i.K]; exact tI) (by rw [i.prog, i.w, i.K, i.mg, i.base]; exact F1) (i.room.mono hk) i.gd (by rw [i.K]; exact hb) hd (eL i hg) (by rw [i.mg]; exact hm) (a1 X i) hdb (he _) (hpl _)), fun W g M As env σ I H D fl R hmm k => ?_⟩
 unfold nC at hmm
 obtain ⟨⟨cs, M1⟩, e1, hmm⟩ := Option.bind_eq_some_iff.mp hmm
 obtain ⟨ds, e2, hmm⟩ := Option.bind_eq_some_iff.mp hmm
 split at hmm
 ·rename_i hlen
  obtain ⟨gds, e3, hmm⟩ := Option.map_eq_some_iff.mp hmm
  subst hmm
  refine a2 g M As env σ I H _ cs M1 R e1 fun vs As1 I1 H1 R1 s1 x1 rs => ?_
  have rd := rs.fixes e2
  have rall := aI.app2 rd (hdd I1)
  refine ⟨by rw [← rd.length]; exact hlen.2, fun b hb1 => ?_⟩
  have nb : ∀ {q : Addr} {o : HO}, H1 q = some o → q ≠ b := fun h z => by rw [z, hb1] at h; cases h
  refine ⟨by rw [List.length_cons, ← rall.length, hlen.1], b, vs ++ dvs, I1, ds ++ dd, gds, rfl, upd_same, fun q u z => by rw [upd_ne (nb (R1.sub q u z))]; exact R1.sub q u z, fun q ht => ?_, rall, e3, fun dx I2 H2 H3 us q1 q2 q3 q4 q5 q6 q7 q8 q9 q10 q11 => ?_⟩
  ·obtain ⟨h1, ⟨ps', h2, h3⟩, h4⟩ := R1.tb q ht
   have h2' : upd H1 b (exo b C none) q = some (.tbl ps') := by rw [upd_ne (nb h2)]; exact h2
   exact ⟨h1, ⟨ps', h2', h3⟩, _, h2'⟩
  ·have h1dx : H1 dx = none := by
    cases z : H1 dx with
    | none => rfl
    | some o =>
     by_cases ht : a9 Z.cl dx
     ·obtain ⟨ps', h2, _⟩ := q5 dx ht
      rw [q7] at h2; cases h2
     ·have := q3 dx o (by rw [upd_ne (nb z)]; exact z) ht
      rw [q7] at this; cases this
   refine ⟨rfl, dx, _, q9, q10, h1dx, ?_⟩
   have hI2b : I2 b = none := q4 b _ upd_same (by
    cases z : I1 b with
    | none => rfl
    | some u => have := R1.sub b u z; rw [hb1] at this; cases this)
   have hI2d : I2 dx = none := by
    cases z : I2 dx with
    | none => rfl
    | some u => have := q2 dx u z; rw [q7] at this; cases this
   have low : ∀ q, q ≠ b → q ≠ dx → upd (del H3 b) dx (.xd ((fs.map (·.1)).reverse.zip us.reverse)) q = H2 q := fun q n1 n2 => by rw [upd_ne n2, del_ne n1, q11 q n1 n2]
   have R2 : CR Z.K Z.cl g M1 As1 env σ I2 (upd (del H3 b) dx (.xd ((fs.map (·.1)).reverse.zip us.reverse))) := by
    refine R1.step (fun q u z => ?_) q1 (fun q o z nt => ?_) (fun q o z z0 => q4 q o (by rw [upd_ne (nb z)]; exact z) z0) fun q ht => ?_
    ·rw [low q (fun y => by rw [y, hI2b] at z; cases z) (fun y => by rw [y, hI2d] at z; cases z)]; exact q2 q u z
    ·rw [low q (nb z) (fun y => by rw [y, h1dx] at z; cases z)]
     exact q3 q o (by rw [upd_ne (nb z)]; exact z) nt
    ·obtain ⟨ps', h2, h3⟩ := q5 q ht
     have nq : q ≠ b := by
      obtain ⟨_, ⟨ps2, h4, _⟩, _⟩ := R1.tb q ht
      exact nb h4
     exact ⟨ps', by rw [low q nq (fun y => by rw [y, q7] at h2; cases h2)]; exact h2, h3⟩
   have hus := q6.length
   subst hks
   exact k σ As1 I2 _ C dx us.reverse R2 (s1.trans q1) x1 hC (.ofReps q6.rev) (by rw [List.length_reverse, List.length_map, List.length_map, List.length_reverse]; exact (hgl _ _ e3).symm) upd_same
 ·cases hmm
end
end Q
namespace Q
open PySem PySem.Spec PyProof.Rows L2
section
variable {P : Program} {K : PySem.W.Frag} {x qual : Str} {st : Stmt} {dvs : List V} {C f cda cc : Addr} {fd : FuncData} {ps : List Str}
theorem kh.binds0 (F : kh P K x qual st [] C f cda cc fd)
  (h : ∀ (kV doc pm : Value) (an : Option Addr) (ct : Value) (us : List Value), us.length = ps.length →
   bindArgs (PySem.W.fnX x qual (defArgs st) (defBody st) (defScope st) [("__class__", cc)] .none kV doc pm an (.ref cda) ct) ⟨us, []⟩ = pure (ps.zip us)) : Binds K fd ps [] := by
 obtain ⟨oc, od, dV, kV, doc, pm, an, ct, osl, ccl, cl, cdd, cld, ccs, csl, ys, file, tf, cd, rfl, lk, hcd, hD, _⟩ := F.ex
 rcases hD with ⟨_, rfl⟩ | ⟨e, _⟩
 ·exact .all (h kV doc pm an ct)
 ·exact absurd rfl e
end
structure p6 (c : Pc) (k : Nat) (x : Str) (N : List Str) (np : Nat) (mf : MSC) : Prop where
 ex : ∃ (f : Addr) (fd : FuncData) (ps : List Str), FnG c.P c.w c.K c.mg c.base (L2.CX c.P c.w) k f fd ps (jm c.K c.cl N np mf) ∧ c.mg x = some (.ref f) ∧ PySem.W.keepIn c.K (.ref f) = true ∧ Binds c.K fd ps []
structure Ac (c : Pc) (k : Nat) (cn : String) (m : Str) (N : List Str) (np : Nat) (mf : MSC) : Prop where
 ex : ∃ (C f : Addr) (fd : FuncData) (ps : List Str), c.cl cn = some C ∧ Cls c.K C ∧ Meth c.K C m f ∧ FnG c.P c.w c.K c.mg c.base (L2.CX c.P c.w) k f fd ps (jm c.K c.cl N np mf) ∧ Binds c.K fd ps []
section
variable {c : Pc} {j k np : Nat} {x m : Str} {cn : String} {N M : List Str} {mf : MSC} {sc s1 : Scope} {me : Option (Addr × Addr)}
theorem p6.z (F : p6 c j x M np mf) (h : j ≤ k) : y4 (c.z k N sc me) x M np mf := let ⟨f, fd, ps, h1, h2⟩ := F.ex; ⟨f, fd, ps, h1.mono h, h2⟩
theorem Ac.z (F : Ac c j cn m M np mf) (h : j ≤ k) : Cd (c.z k N sc me) cn m M np mf := let ⟨C, f, fd, ps, q1, q2, q3, h1, h2⟩ := F.ex; ⟨C, f, fd, ps, q1, q2, q3, h1.mono h, h2⟩
end
section
variable {Z : Zc}
theorem vi : ∀ X, InF Z X → PSs X [] (iA Z.K []) := fun _ _ => pss_nil
theorem ug {me x f : Str} {j : Nat} {p1 p2 p3 pos : Pos} {sts : List Stmt} {fs : List (Str × Nat)} (hN0 : Z.N[0]? = some me) (hv0 : Vis Z.sc me) (hN : Z.N[j]? = some x) (hv : Vis Z.sc x) (r : ∀ X, InF Z X → PSs X sts (iA Z.K fs))
  (d0 : (me == ("__debug__" : Str)) = false := by decide) (d1 : (me == ("__classdict__" : Str)) = false := by decide) (d2 : (x == ("__debug__" : Str)) = false := by decide) (d3 : (x == ("__classdict__" : Str)) = false := by decide)
  (hs : ∀ env, swapsWith (.Name x p3) (some (.Attribute (.Name me p1) f p2)) pos.line env = pure false := by intro _; rfl) :
  ∀ X, InF Z X → PSs X (.Assign [.Attribute (.Name me p1) f p2] (.Name x p3) pos :: sts) (iA Z.K ((f, j) :: fs)) := fun X i => by
 have q := pss_cons (ps_ost (X := X) (f := f) (p' := p2) (pos := pos) (pe_var (i := 0) (pos := p1) (by rw [i.N]; exact hN0) (fM i hv0) d0 d1) (pe_var (i := j) (pos := p3) (by rw [i.N]; exact hN) (fM i hv) d2 d3) (hs _)) (r X i)
 rw [i.K] at q
 exact q
end
theorem qm (a b : Str) : (a ++ b).length = a.length + b.length := by
 show (a.cps ++ b.cps).size = a.cps.size + b.cps.size
 exact Array.size_append
theorem oQ : ∀ (ys : List Str) (acc : Str) (env : En) (ms : List ME), ms.map (fun m => m env) = ys.map (fun y => some (D.str y, env)) → (ys.foldl (fun n y => n + y.length) acc.length) ≤ sizeLine → ∃ out, mJs ms acc env = some (out, env)
 | [], acc, env, ms, h, _ => by
  simp only [List.map_nil, List.map_eq_nil_iff] at h
  subst h
  exact ⟨acc, rfl⟩
 | y :: ys, acc, env, ms, h, hl => by
  match ms, h with
  | m :: ms, h =>
   simp only [List.map_cons, List.cons.injEq] at h
   have hmono : ∀ (ys : List Str) (n : Nat), n ≤ ys.foldl (fun n y => n + y.length) n := by
    intro ys
    induction ys with
    | nil => intro n; exact Nat.le_refl _
    | cons z ys ih => intro n; exact Nat.le_trans (Nat.le_add_right _ _) (ih _)
   have e : (acc ++ y).length = acc.length + y.length := qm _ _
   have h1 := hmono ys (acc.length + y.length)
   simp only [List.foldl_cons] at hl
   unfold mJs
   rw [h.1]
   simp only [Option.bind_some]
   rw [if_pos (by rw [e]; omega)]
   exact oQ ys (acc ++ y) env ms h.2 (by rw [e]; exact hl)
theorem xV {env : En} {m : ME} {n : Int} (h : m env = some (.int n, env)) (hl : n.natAbs.log2 < 1920) : gu m env = some (.str (Str.ofString (toString n)), env) := by
 unfold gu
 rw [h]
 simp only [Option.bind_some]
 rw [if_pos hl]
theorem sU {ms : List ME} {env : En} {out : Str} (h : mJs ms Str.empty env = some (out, env)) : fX ms env = some (.str out, env) := by
 unfold fX
 rw [h]; rfl
end Q
namespace Q
open PySem PySem.Spec PyProof.Rows L2
def mkInt : List D → Option (List D)
 | [.int n] => if n.natAbs.log2 < 1920 ∧ (Str.ofString (toString n)).length ≤ 1000 then some [.int n] else none
 | _ => none
theorem sQ : ∀ ds gds, mkInt ds = some gds → gds.length = 1 := by
 intro ds gds h
 unfold mkInt at h
 split at h
 ·split at h
  ·cases h; rfl
  ·cases h
 ·cases h
theorem sz5 {k : Nat} (hk : k ≤ 6000) : k ≤ sizeLine := by rw [sizeLine_eq]; omega
theorem uH (s z f : Str) (hs : s.length ≤ 1000) (hz : z.length ≤ 1000) : ∀ ds gds, mkInt ds = some gds → ds.length = 1 ∧ gds.length = 1 ∧ ∀ a, ∃ d env2, fX [(mC (.str s)), (gu (au 1)), (mC (.str z))] (.imm (.adr a) :: ds.map .imm ++ List.replicate (3 - (ds.length + 1)) .un) = some (d, env2) ∧
  ∀ (i : Nat) (p : Str × Nat) (g : D), ([(f, 1)] : List (Str × Nat))[i]? = some p → gds[i]? = some g → (Sl.imm (.adr a) :: ds.map .imm ++ List.replicate (3 - (ds.length + 1)) .un)[p.2]? = some (.imm g) := by
 intro ds gds h
 unfold mkInt at h
 split at h
 ·rename_i n
  split at h
  ·rename_i hc
   cases h
   refine ⟨rfl, rfl, fun a => ?_⟩
   let e0 : En := [.imm (.adr a), .imm (.int n), .un]
   obtain ⟨out, ho⟩ := oQ [s, Str.ofString (toString n), z] Str.empty e0 [(mC (.str s)), (gu (au 1)), (mC (.str z))]
    (by simp only [List.map_cons, List.map_nil]; rw [xV (m := au 1) (env := e0) (n := n) rfl hc.1]; rfl)
    (sz5 (by
     have l1 : Str.empty.length = 0 := rfl
     have := hc.2
     simp only [List.foldl_cons, List.foldl_nil, l1]; omega))
   refine ⟨_, _, sU ho, fun i p g h1 h2 => ?_⟩
   match i, h1, h2 with
   | 0, h1, h2 => cases h1; cases h2; rfl
  ·cases h
 ·cases h
def jX : List D → Option (List D) := mkInt
theorem uu : ∀ ds gds, jX ds = some gds → gds.length = 1 := sQ
def xq := uH "line " " is wrong" "line" (by decide) (by decide)
end Q
namespace PySem.W
open PySem PySem.Spec PySem.Calls PyProof.Rows
section
variable {prog : Program} {w : World} {A : Around} {E : Value → Shared → Prop} {s : Shared} {K : Frag} {x D : Addr} {ox : Obj} {od : Option Obj}
theorem oS {C : Addr} {name : Str} {a g : Value} (hc : (clsIn K C).isSome = true) (ha : findIn K (.ref C) name = some (some a)) (hg : specialIn K a "__get__" = some (some g)) (ht : takesIn K a = some true) : findObj K C od name = some (.bind g a) := by
 obtain ⟨cd, hc⟩ := Option.isSome_iff_exists.mp hc
 unfold findObj
 rw [hc, Option.bind_some, ha, Option.bind_some]
 simp [hg, ht]
theorem rH {Q : Option Value → Shared → Prop} (hga : findIn K (.ref D) "__getattribute__" = some (some (.builtin "BaseException.__getattribute__"))) (hgt : findIn K (.ref D) "__getattr__" = some none) (hsub : subIn K (.ref D) (.type "BaseException") = some true)
  (hdct : hasDictIn K D = true) (ha : findIn K (.ref D) "__class__" = some (some (.builtin "object.__class__")))
  (hn : specialIn K (.builtin "object.__class__") "__get__" = some (some (.builtin "getset_descriptor.__get__"))) (htk : takesIn K (.builtin "object.__class__") = some true) (hm : mroIn K D (.type "object") = some true)
  (X : K.In s.heap) (I : InstAt s.heap x ox D od) (h : Q (some (.ref D)) { s with toks := s.toks + 1 }) : wpAny (model prog w) A (getAttr? (.ref x) "__class__") Q E s := by
 have hf : findObj K D od "__class__" = some (.bind (.builtin "getset_descriptor.__get__") (.builtin "object.__class__")) := oS (by obtain ⟨cd, hc, _⟩ := any_some hdct; rw [hc]; rfl) ha hn htk
 obtain ⟨hp, g, d, t, os⟩ := s
 have L0 := I.type (M := model prog w)
 have L1 := looks_findIn (M := model prog w) X hga
 have L2 := looks_findIn (M := model prog w) X hgt
 have L3 := looks_find (M := model prog w) X I hf
 have sub : Looks (model prog w) hp (isInstance (.ref x) (.type "BaseException")) true := L0.andThen (looks_subIn X hsub)
 have hx0 : (false && onTheHeap (Value.builtin "BaseException.__getattribute__")) = false := rfl
 have hx2 : (Value.builtin "BaseException.__getattribute__" == Value.builtin "object.__getattribute__") = false := by decide +kernel
 have hx1 : (onTheHeap (Value.ref D) && Value.builtin "BaseException.__getattribute__" == Value.builtin "object.__getattribute__") = false := by rw [hx2]; rfl
 unfold getAttr? getAttrBy? getAttrBy
 refine wpAny_bind (wpAny_mkText (wpAny_bind (wpAny_attempt (wpAny_holding (wpAny_bind (L0.at (wpAny_bind (L1.at ?_))))))))
 show wpAny _ _ (if (onTheHeap (Value.ref D) && Value.builtin "BaseException.__getattribute__" == Value.builtin "object.__getattribute__") = true then _ else _) _ _ _
 rw [hx1, if_neg Bool.false_ne_true]
 unfold getAttrByItsOwn hookBefore
 refine wpAny_bind ?_
 rw [if_pos (show onTheHeap (Value.ref D) = true from rfl)]
 refine L2.at ?_
 refine wpAny_bind (wpAny_attempt (wpAny_holding ?_))
 unfold callGetattribute
 rw [hx0, if_neg Bool.false_ne_true]
 unfold boundAndCalled
 rw [PySem.F.excAttr_ValueError.ga.bind (.ref x)]
 refine wpAny_bind (wpAny_pure ?_)
 show wpAny _ _ (call (.builtin "BaseException.__getattribute__") [.ref x, .str "__class__" t]) _ _ _
 refine wpAny_call (codeAny_call_builtin PySem.F.excAttr_ValueError.ga.plain PySem.F.entry_bexc_ga ?_)
 refine @check_slot (model prog w) _ _ ⟨hp, g, d, t + 1, os⟩ "BaseException.__getattribute__" "BaseException" "__getattribute__" (.ref x) [.str "__class__" t] [] _ (by decide +kernel) (by decide +kernel) sub (PySem.F.args_bexc_ga (.ref x) (.str "__class__" t)) ?_
 unfold Builtin.«object.__getattribute__»
 refine wpAny_bind (wpAny_of_eq (a := ((Value.ref x : Value), [Value.str "__class__" t])) (by first | rfl | (simp only [slotArgs]; rfl)) ?_)
 refine wpAny_bind (wpAny_pure (wpAny_bind (L0.at (wpAny_bind (L3.at ?_)))))
 show wpAny _ _ (holding [Value.builtin "object.__class__"] (call (.builtin "getset_descriptor.__get__") [.builtin "object.__class__", .ref x, .ref D]) >>= ret) _ _ _
 refine wpAny_bind (wpAny_holding (wpAny_call (class_get (s := ⟨hp, g, d, t + 1, os⟩) (ox := ox) (od := od) X I hm ?_)))
 refine wpAny_pure ?_
 show wpAny _ _ (handedOut (.ref D)) _ _ _
 rw [handedOut_of (v := .ref D) rfl]
 first
  | exact wpAny_pure (wpAny_pure h)
  | exact wpAny_pure h
  | exact wpAny_pure (wpAny_bind (wpAny_pure (wpAny_pure h)))
theorem kitx_excO (hga : findIn K (.ref D) "__getattribute__" = some (some (.builtin "BaseException.__getattribute__"))) (hgt : findIn K (.ref D) "__getattr__" = some none) (hsub : subIn K (.ref D) (.type "BaseException") = some true) (hdct : hasDictIn K D = true) (ha : findIn K (.ref D) "__class__" = some (some (.builtin "object.__class__")))
  (hn : specialIn K (.builtin "object.__class__") "__get__" = some (some (.builtin "getset_descriptor.__get__"))) (htk : takesIn K (.builtin "object.__class__") = some true) (hm : mroIn K D (.type "object") = some true) :
  KitX K (.ref x) (.ref D) (fun h => InstAt h x ox D od) where
 ty := fun _ _ _ I => I.type
 it := fun _ _ X _ => by
  obtain ⟨cdD, hcD, _⟩ := any_some hdct
  unfold clsIn at hcD
  split at hcD
  ·rename_i c' d' cd' sl' ho
   intro A' Q' E' s' k q
   unfold isType loadHead
   exact wpAny_bind (wpAny_loadPart (k _ _ (X _ _ ho)) (wpAny_pure q))
  ·cases hcD
 ne := fun h tp dd its n sl X htp => by
  obtain ⟨cdD, hcD, _⟩ := any_some hdct
  refine Bool.eq_false_iff.mpr fun q => ?_
  have e : D = tp := Value.ref.inj (beq_iff_eq.mp q)
  subst e
  unfold clsIn at hcD
  split at hcD
  ·rename_i c' d' cd' sl' ho
   have z := (X _ _ ho).symm.trans htp
   cases z
  ·cases hcD
 ca := fun X I k => rH hga hgt hsub hdct ha hn htk hm X I k
end
end PySem.W
namespace Q
open PySem PySem.Spec PyProof.Rows L2
def zK (K : PySem.W.Frag) (cls : Value) (d : Option Addr) (a : Addr) : List V → Hp → VK → Prop := fun xs H Q => ∃ (D dd : Addr) (fs : List (Str × V)) (c : V) (cv : Value) (b : Bool), cls = .ref D ∧ d = some dd ∧ H dd = some (.xd fs) ∧ ExcC K D ∧ xs = [.ref a, c] ∧ (∀ u, RelV c u → u = cv) ∧ PySem.W.kitOne K (.ref D) cv = some b ∧ Q (.bl b) H
theorem vr {X : Cx} {a : Addr} {cls : Value} {d : Option Addr} {oe : Obj} {pn : List (Addr × Obj)} (hz : L2.Zc cls d oe) (hf : ∃ vs, oe.data = .fields vs) : CallR (X.suite a ((a, oe) :: pn)) (.builtin "isinstance") (zK X.K cls d a) := by
 intro pins s σ H xs us Q I r h
 obtain ⟨D, dd, fs, c, cv, b, ec, ed, hd, C, rfl, hcv, e, q⟩ := h
 subst ec
 subst ed
 cases r with
 | cons rx rr =>
  cases rr with
  | cons rt rr =>
   cases rr
   cases rx
   have ec := hcv _ rt
   subst ec
   obtain ⟨hget, _⟩ := I.pin (a, oe) (List.mem_append.mpr (.inl List.mem_cons_self))
   obtain ⟨vs, hv⟩ := hf
   have hx : ObjOk X.prog X.w H s.heap dd (.xd fs) := I.hok dd _ hd
   obtain ⟨mA, hns, hr⟩ := hx
   obtain ⟨od, ho, _⟩ := lookIn_ns hns
   have J : PySem.W.InstAt s.heap a oe D (some od) := ⟨hget, hz.1, by unfold PySem.W.notCls; rw [hv] <;> rfl, by rw [hz.2]; exact ho⟩
   exact PySem.W.kia_one (PySem.W.kitx_excO C.hg C.hk C.hs C.hd C.ha C.hn C.ht C.hm) I.kIn J e (fun z => nomatch z) fun tk => ⟨.bl b, H, I.kept (t' := tk) fun _ _ z => z, rfl, q⟩
section
variable {Z : Zc} {i : Nat}
def CUT (Z : Zc) (i : Nat) (e : Expr) (m : String → List Str → List aw → Option Bool) : Prop := ∃ t : Addr → Value → Option Addr → TT,
 (∀ (X : Cx) (a : Addr) (oe : Obj) (cls : Value) (d : Option Addr) (pn : List (Addr × Obj)), InF Z X → L2.Zc cls d oe → (∃ vs, oe.data = .fields vs) → PT (X.suite a ((a, oe) :: pn)) e (t a cls d)) ∧
 ∀ (g : CG) (M : Mem) (As : List Addr) (env : aD) (σ : L2.St) (I H : Hp) (Q : Bool → Hp → Prop) (b : Bool) (a C d : Addr) (c : String) (ks : List Str) (cs : List aw) (vs : List V), CR Z.K Z.cl g M As env σ I H → σ[i]? = some (some (.ref a)) → Z.cl c = some C → bo Z.K Z.cl I As cs vs → ks.length = cs.length → H d = some (.xd (ks.zip vs)) →
  m c ks cs = some b → Q b H → t a (.ref C) (some d) σ H Q
structure yj (Z : Zc) (B : Str) (sub : String → Option Bool) : Prop where
 ex : ∃ (v : V) (cv : Value), (∀ X, InF Z X → ∀ p : Pos, PE X (.Name B p) (tC v)) ∧ (∀ X (a : Addr) (oe : Obj) (pn : List (Addr × Obj)), InF Z X → ∀ p : Pos, PE (X.suite a ((a, oe) :: pn)) (.Name B p) (tC v)) ∧ (∀ u, RelV v u → u = cv) ∧
  ∀ c C b, Z.cl c = some C → sub c = some b → ExcC Z.K C ∧ PySem.W.kitOne Z.K (.ref C) cv = some b
theorem x7 {x B : Str} {sub : String → Option Bool} {p0 p pB pos : Pos} (hg : GlZ Z "isinstance") (hm : Z.mg "isinstance" = none) (hN : Z.N[i]? = some x) (hv : Vis Z.sc x) (T : yj Z B sub)
  (hd : (x == ("__debug__" : Str)) = false := by decide) (hcd : (x == ("__classdict__" : Str)) = false := by decide)
  (he : ∀ env, starEach [.Name x p, .Name B pB] env = (false, eval (.Name x p) env) :: starEach [.Name B pB] env := by intro _; rfl) (he2 : ∀ env, starEach [.Name B pB] env = (false, eval (.Name B pB) env) :: starEach [] env := by intro _; rfl)
  (hpl : ∀ env, (backTo pos (starEach [.Name B pB] env)).any (·.1) = false := by intro _; rfl) :
  CUV Z i (.Call (.Name "isinstance" p0) [.Name x p, .Name B pB] [] pos) (fun c _ _ => (sub c).map fun b => .fix (.bl b)) := by
 obtain ⟨v, cv, T1, T2, T3, T4⟩ := T.ex
 refine ⟨fun a cls d => tCB (zK Z.K cls d a) (tCons (tVar i) (tCons (tC v) tNil)), fun X a oe cls d pn h hz hf => ?_, fun g M As env σ I H Q cv2 a C d c ks cs vs R ha hC rs hk hd2 hm k => ?_⟩
 ·have hv' : PE (X.suite a ((a, oe) :: pn)) (.Name x p) (tVar i) := pe_var (X := X.suite a ((a, oe) :: pn)) (by show X.N[i]? = _; rw [h.N]; exact hN) (show Vis X.env.scope x from fM (X := X) h hv) hd hcd
  have q := vr (X := X) (a := a) (pn := pn) hz hf
  rw [h.K] at q
  exact pe_callB (X := X.suite a ((a, oe) :: pn)) q (show Gl (X.suite a ((a, oe) :: pn)) "isinstance" from eL (X := X) h hg) (by show X.mg _ = none; rw [h.mg]; exact hm) (by decide +kernel) (pa_cons hv' (pa_cons (T2 X a oe pn h pB) pa_nil (he2 _)) (he _)) (by decide) (by decide) (he _) (hpl _)
 ·obtain ⟨b, e1, e2⟩ := Option.map_eq_some_iff.mp hm
  subst e2
  obtain ⟨h1, h2⟩ := T4 c C b hC e1
  exact ⟨_, ha, C, d, _, v, cv, b, rfl, rfl, hd2, h1, rfl, T3, h2, k _ (.fix .bl)⟩
theorem qT {e : Expr} {m : String → List Str → List aw → Option aw} (h : CUV Z i e m) (he : ∀ env whole, isTrue e env whole = (do let v ← whole; standAt e.pos; holding [v] (truthy v)) := by intro _ _; rfl) : CUT Z i e (fun c ks cs => match m c ks cs with
  | some (.fix (.bl b)) => some b
  | _ => none) := by
 obtain ⟨t, h1, h2⟩ := h
 refine ⟨fun a cls d => tB (t a cls d), fun X a oe cls d pn i hz hf => pt_val (h1 X a oe cls d pn i hz hf) (he _), fun g M As env σ I H Q b a C d c ks cs vs R ha hC rs hk hd hm k => ?_⟩
 dsimp only at hm
 split at hm
 ·rename_i b' e1
  cases hm
  exact h2 g M As env σ I H _ _ a C d c ks cs vs R ha hC rs hk hd e1 fun u ru => ⟨_, ru.fix_inv.bl_inv, k⟩
 ·cases hm
theorem w9 {e : Expr} {m : String → List Str → List aw → Option Bool} {pos : Pos} (h : CUT Z i e m) : CUT Z i (.UnaryOp .Not e pos) (fun c ks cs => (m c ks cs).map (!·)) := by
 obtain ⟨t, h1, h2⟩ := h
 refine ⟨fun a cls d => tNot (t a cls d), fun X a oe cls d pn i hz hf => pt_not (h1 X a oe cls d pn i hz hf), fun g M As env σ I H Q b a C d c ks cs vs R ha hC rs hk hd hm k => ?_⟩
 obtain ⟨b', e1, e2⟩ := Option.map_eq_some_iff.mp hm
 subst e2
 exact h2 g M As env σ I H _ b' a C d c ks cs vs R ha hC rs hk hd e1 k
end
end Q
namespace Q
open PySem PySem.Spec PyProof.Rows L2
section
variable {Z : Zc} {i : Nat}
abbrev MUT := String → List Str → List aw → Option Bool
abbrev MUV := String → List Str → List aw → Option aw
def CUW (Z : Zc) (i : Nat) (e : Expr) (m : MUT) : Prop := ∃ t : Addr → Value → Option Addr → TT,
 (∀ (X : Cx) (a : Addr) (oe : Obj) (cls : Value) (d : Option Addr) (pn : List (Addr × Obj)), InF Z X → L2.Zc cls d oe → (∃ vs, oe.data = .fields vs) → PW (X.suite a ((a, oe) :: pn)) e (t a cls d)) ∧
 ∀ (g : CG) (M : Mem) (As : List Addr) (env : aD) (σ : L2.St) (I H : Hp) (Q : Bool → Hp → Prop) (b : Bool) (a C d : Addr) (c : String) (ks : List Str) (cs : List aw) (vs : List V), CR Z.K Z.cl g M As env σ I H → σ[i]? = some (some (.ref a)) → Z.cl c = some C → bo Z.K Z.cl I As cs vs → ks.length = cs.length → H d = some (.xd (ks.zip vs)) →
  m c ks cs = some b → Q b H → t a (.ref C) (some d) σ H Q
theorem CUW.tv {e : Expr} {m : MUT} (h : CUW Z i e m) : CUT Z i e m := let ⟨t, h1, h2⟩ := h; ⟨t, fun X a oe cls d pn k hz hf => (h1 X a oe cls d pn k hz hf).pt, h2⟩
theorem ye {a : Expr} {m : MUT} {pos : Pos} (h : CUT Z i a m) : CUW Z i (.BoolOp .Or [a] pos) m := let ⟨t, h1, h2⟩ := h; ⟨t, fun X a oe cls d pn k hz hf => pw_or1 (h1 X a oe cls d pn k hz hf), h2⟩
def uOr (a b : MUT) : MUT := fun c ks cs => (a c ks cs).bind fun x => if x then some true else b c ks cs
theorem yS {a b : Expr} {r : List Expr} {ma mb : MUT} {pos : Pos} (ha : CUT Z i a ma) (hb : CUW Z i (.BoolOp .Or (b :: r) pos) mb) : CUW Z i (.BoolOp .Or (a :: b :: r) pos) (uOr ma mb) := by
 obtain ⟨ta, a1, a2⟩ := ha
 obtain ⟨tb, b1, b2⟩ := hb
 refine ⟨fun x c d => tOr (ta x c d) (tb x c d), fun X a oe cls d pn k hz hf => pw_or (a1 X a oe cls d pn k hz hf) (b1 X a oe cls d pn k hz hf), fun g M As env σ I H Q b a C d c ks cs vs R h0 hC rs hk hd hm k => ?_⟩
 unfold uOr at hm
 obtain ⟨x, e1, hm⟩ := Option.bind_eq_some_iff.mp hm
 refine a2 g M As env σ I H _ x a C d c ks cs vs R h0 hC rs hk hd e1 ?_
 cases x with
 | true => cases hm; exact k
 | false => exact b2 g M As env σ I H _ b a C d c ks cs vs R h0 hC rs hk hd hm k
theorem tS {tst e1 : Expr} {rest : List Stmt} {mt : MUT} {m1 : MUV} {mr : String → List Str → List aw → MSC} {p1 pos : Pos} (ht : CUT Z i tst mt) (h1 : CUV Z i e1 m1) (hr : CSA Z i rest mr) :
  CSA Z i (.If tst [.Return (some e1) p1] [] pos :: rest) (fun c ks cs M env => (mt c ks cs).bind fun b => if b then (m1 c ks cs).map fun v => .ret v M env else mr c ks cs M env) := by
 obtain ⟨tt, t1, t2⟩ := ht
 obtain ⟨te, e1', e2'⟩ := h1
 obtain ⟨tr, r1, r2⟩ := hr
 refine ⟨fun a cls d => tSeq (tIfS (tt a cls d) (tRet (te a cls d)) tNext) (tr a cls d), fun X a oe cls d pn k hz hf => pss_cons (ps_if (t1 X a oe cls d pn k hz hf) (pss_one (ps_ret (e1' X a oe cls d pn k hz hf))) pss_nil) (r1 X a oe cls d pn k hz hf), fun g M As env σ I H D fl a C d c ks cs vs R h0 hC rs hk hd hm k => ?_⟩
 obtain ⟨b, q1, hm⟩ := Option.bind_eq_some_iff.mp hm
 refine t2 g M As env σ I H _ b a C d c ks cs vs R h0 hC rs hk hd q1 ?_
 cases b with
 | true =>
  rw [if_pos rfl] at hm
  obtain ⟨v, q2, hm⟩ := Option.map_eq_some_iff.mp hm
  subst hm
  exact e2' g M As env σ I H _ v a C d c ks cs vs R h0 hC rs hk hd q2 fun u ru => k σ As I H u R (Same.refl _) (Ext.refl _) ru
 | false =>
  rw [if_neg (by simp)] at hm
  exact r2 g M As env σ I H D fl a C d c ks cs vs R h0 hC rs hk hd hm k
end
end Q
namespace Q
open PySem PySem.Spec PyProof.Rows L2
section
variable {Z : Zc} {i : Nat}
theorem uZ {n : Int} {j p} {pos : Pos} : CUV Z i (.UnaryOp .USub (.Constant (.int n) j p) pos) (fun _ _ _ => some (.fix (.int (-n)))) :=
 ⟨fun _ _ _ => tUn (rU fun i => .int (-i)) (tC (.int n)), fun X a oe cls d pn _ _ _ => pe_un un_neg pe_int, fun g M As env σ I H Q cv a C d c ks cs vs R _ _ _ _ _ hm k => by cases hm; exact ⟨n, rfl, k _ (.fix .int)⟩⟩
end
end Q
namespace Q
open PySem PySem.Spec PyProof.Rows L2
abbrev uC (d : D) : MUV := fun _ _ _ => some (.fix d)
abbrev BX (sub : String → Option Bool) : MUV := fun c _ _ => (sub c).map fun b => .fix (.bl b)
abbrev Cj (m : MUT) : MUT := fun c ks cs => (m c ks cs).map (!·)
abbrev zj (m : MUV) : MUT := fun c ks cs => match m c ks cs with
  | some (.fix (.bl b)) => some b
  | _ => none
abbrev AO (mt : MUT) (m1 : MUV) (mr : String → List Str → List aw → MSC) : String → List Str → List aw → MSC := fun c ks cs M env => (mt c ks cs).bind fun b => if b then (m1 c ks cs).map fun v => .ret v M env else mr c ks cs M env
end Q
namespace Q
open PySem PySem.Spec PyProof.Rows L2
structure Dx (Z : Zc) (c : String) (m : Str) (N : List Str) (np : Nat) (mf : MSC) (dd : List D) : Prop where
 ex : ∃ (C f : Addr) (fd : FuncData) (ps : List Str) (dvs : List V) (ds : List Value), Z.cl c = some C ∧ Cls Z.K C ∧ Meth Z.K C m f ∧ FnG Z.P Z.w Z.K Z.mg Z.base CX0 Z.k f fd ps (spC Z.K Z.cl N np mf) ∧ Binds Z.K fd ps ds ∧ Vals dvs ds ∧ ∀ I, aI Z.K Z.cl I dd dvs
structure zd (c : Pc) (k : Nat) (cn : String) (m : Str) (N : List Str) (np : Nat) (mf : MSC) (dd : List D) : Prop where
 ex : ∃ (C f : Addr) (fd : FuncData) (ps : List Str) (dvs : List V) (ds : List Value), c.cl cn = some C ∧ Cls c.K C ∧ Meth c.K C m f ∧ FnG c.P c.w c.K c.mg c.base CX0 k f fd ps (spC c.K c.cl N np mf) ∧ Binds c.K fd ps ds ∧ Vals dvs ds ∧ ∀ I, aI c.K c.cl I dd dvs
theorem zd.z {c : Pc} {j k np : Nat} {cn : String} {m : Str} {N M : List Str} {mf : MSC} {dd : List D} {sc : Scope} {me : Option (Addr × Addr)} (F : zd c j cn m M np mf dd) (h : j ≤ k) : Dx (c.z k N sc me) cn m M np mf dd := let ⟨C, f, fd, ps, q0, q9, q1, q2, q3, h1, h2⟩ := F.ex; ⟨C, f, fd, ps, q0, q9, q1, q2, q3, h1.mono h, h2⟩
end Q
namespace Q
open PySem PySem.Spec PyProof.Rows L2
theorem bU {K : PySem.W.Frag} {x qual : Str} {st : Stmt} {f : Addr} {fd : FuncData} (F : FunD K x qual (defArgs st) (defBody st) (defScope st) [] [] f fd) : Fun K x qual st f fd := by
 obtain ⟨⟨oc, od, dV, kV, doc, pm, an, cdv, ct, osl, rfl, lk, hc, hd, _⟩, kp⟩ := F
 rcases hd with ⟨_, rfl⟩ | ⟨h, _⟩
 ·exact ⟨⟨oc, od, kV, doc, pm, an, cdv, ct, osl, rfl, lk, hc⟩, kp⟩
 ·exact absurd rfl h
theorem uV {K : PySem.W.Frag} {x qual : Str} {st : Stmt} {p : Str × Option Str} {fd : FuncData} (F : Fun K x qual st (He.fAd K p) fd) : fd.code = .ref (He.codeOf K p) := by
 obtain ⟨⟨oc, od, kV, doc, pm, an, cdv, ct, osl, rfl, lk, hc⟩, kp⟩ := F
 obtain ⟨c, rfl⟩ := He.codeIn_ref hc
 rw [He.codeOf_eq lk rfl]
theorem yb {P : Program} {K : PySem.W.Frag} {d : eF} (e : lO K d.at_ = d.val) (h : yi P K d = true) (op : PySem.W.nsIn K cStatics "thirdparty.any" = some none) (top : (P.main.scope.names.lookup ("super" : Str)).isSome = false) :
  ∃ cda cc fd, kh P K "__init__" d.qual d.st d.dvs (He.ga K d.at_.1) (He.fAd K d.at_) cda cc fd ∧ OexC K (He.ga K d.at_.1) ∧ PySem.W.findIn K (.ref (He.ga K d.at_.1)) "__init__" = some (some (.ref (He.fAd K d.at_))) ∧ PySem.W.typeIn K (.ref (He.fAd K d.at_)) = some (.type "function") := by
 obtain ⟨h1, h2⟩ := He.ba h
 obtain ⟨h2, h3⟩ := He.ba h2
 obtain ⟨h3, h4⟩ := He.ba h3
 obtain ⟨h4, h5⟩ := He.ba h4
 obtain ⟨h5, h6⟩ := He.ba h5
 obtain ⟨h6, h7⟩ := He.ba h6
 have h2 := He.eqO_ok h2
 have h3 := of_decide_eq_true h3
 have h4 := of_decide_eq_true h4
 have h5 := of_decide_eq_true h5
 unfold lO at e
 cases q : K.lookup (He.fAd K d.at_) with
 | none => rw [q] at h7; cases h7
 | some o =>
  obtain ⟨oc, od, dt, osl⟩ := o
  rw [q] at h7 e
  cases dt with
  | func fd =>
   obtain ⟨n1, n2, n3, n4, n5, n6, n7, n8, n9, n10, n11, n12, n13, n14, n15⟩ := fd
   have e2 : (some (n1, n2, n3, n4, n5, n6, n7.map (·.1), n15) : pN) = (some ("__init__", d.qual, defArgs d.st, FuncBody.stmts (defBody d.st), defScope d.st, mainGlobals, ["__class__"], builtinsNs) : pN) := e
   simp only [Option.some.injEq, Prod.mk.injEq] at e2
   obtain ⟨g1, g2, g3, g4, g5, g6, g7, g8⟩ := e2
   subst g1 g2 g3 g4 g5 g6 g8
   dsimp only at h7
   split at h7
   ·rename_i cda s cc
    have gs : s = "__class__" := by
     have : ([s] : List Str) = (["__class__"] : List Str) := g7
     exact (List.cons.inj this).1
    subst gs
    obtain ⟨k1, h7⟩ := He.ba h7
    obtain ⟨k2, h7⟩ := He.ba h7
    obtain ⟨k3, k4⟩ := He.ba h7
    cases hc : PySem.W.clsIn K (He.ga K d.at_.1) with
    | none => rw [hc] at h6; cases h6
    | some cd =>
     rw [hc] at h6
     have h6 := He.eqO_ok h6
     split at k3
     ·rename_i x1 x2 vs x3 hv
      split at k3
      ·rename_i fl tf hf
       split at k4
       ·rename_i y1 y2 C' y3 hy
        have eC := of_decide_eq_true k4
        subst eC
        exact ⟨cda, cc, _, ⟨⟨oc, od, n8, n9, n10, n11, n12, n14, osl, x1, y1, x2, y2, x3, y3, vs, fl, tf, cd, rfl, q, k1, He.dflB_ok k2, hv, hf, k3, hy, hc, h6⟩, h4, h5, op, top⟩, xa h1, h2, h3⟩
       ·cases k4
      ·cases k3
     ·cases k3
   ·cases h7
  | _ => cases h7
theorem x9 {l : PySem.W.OpenLaw} {n k : Nat} {q : Program} {loose : List Str} {XP : (Str → Option Value) → Heap → Prop} {YP : World → Heap → Prop} {d : DefRec} {CX : CXT} {x : Str}
  (hn : l.most = some n) (hn2 : n ≤ sizeLine) (hdf : d.params.defaults = []) (hr : Room k callerA)
  (F : ∀ (w : World) (mg : Str → Option Value) (fa : Addr) (h : Heap), YP w h → h.Ns mainGlobals mg → mg d.name = some (.ref fa) → ∃ (K : PySem.W.Frag) (fd : FuncData) (cs : List (Addr × Addr)), K.In h ∧ (∀ (s : Shared) (u : Value), BindsTo s fd ⟨[u], []⟩ [(x, u)]) ∧
   (∀ p ∈ cs, PySem.W.CodeHd h p.1 p.2 ∧ h.get? p.2 = some nz ∧ K.lookup p.2 = none) ∧
   ∀ base : Heap, K.In base → base.Ns mainGlobals mg → (∀ p ∈ cs, GxR.TabB base mg p.1 p.2) → FnG l.prog w K mg base CX k fa fd [x] (SpG K cs n))
  (hCX : ∀ (H : Hp) (s : Shared) (e : Value) (z : Shared), CX [] H s (fun _ _ _ => False) e z → False) : PySem.W.WalkO q loose XP YP l.row.toRowW d [] (fun f vs => PySem.call f vs) := by
 refine Att.attach_call hn hdf fun w s₀ s₁ mg mb fa o pm cd doc a vs ns G Y _ _ _ hmg ha hints hlen hg => ?_
 obtain ⟨K, fd, cs, KX, hb, hcs, hF⟩ := F w mg fa _ Y G.T.g hmg
 have both : ∀ p ∈ cs, PySem.W.CodeHd s₁.heap p.1 p.2 ∧ s₁.heap.get? p.2 = some nz := fun p hp => ⟨(hcs p hp).1, (hcs p hp).2.1⟩
 have ntK : ∀ p ∈ cs, K.lookup p.2 = none := fun p hp => (hcs p hp).2.2
 have rv := vals_of_ints hints
 have hl := hints.length
 have hz : (ns.map V.int).length ≤ sizeLine := by rw [List.length_map]; omega
 have sz : vs.toArray.size ≤ sizeLine := by rw [List.size_toArray, hl]; omega
 have ant : a ∉ cs.map (·.2) := fun q => by
  obtain ⟨p, hp, e⟩ := List.mem_map.mp q
  have h2 := (both p hp).2
  rw [e, ha] at h2
  have h3 := congrArg Obj.cls (Option.some.inj h2)
  cases h3
 have mem2 : ∀ p ∈ cs, p.2 ∈ cs.map (·.2) := fun p hp => List.mem_map.mpr ⟨p, hp, rfl⟩
 have base := fun H => tT (H := H) (cs := cs) KX G.T.g G.T.b G.T.builtins G.T.nolimit hg ha hr (fun p hp => (both p hp).2) ntK (fun p hp => (both p hp).1) G.T.bmain hF hb
 have tb0 : ∀ {H : Hp}, (∀ p ∈ cs, H p.2 = some (.tbl #[])) → ∀ p ∈ cs, GxR.TabG H p.2 := fun h p hp => ⟨#[], h p hp, True.intro⟩
 match hk : K.lookup a with
 | some o =>
  have e := KX a o hk
  rw [ha] at e
  cases e
  let H : Hp := fun b => if b ∈ cs.map (·.2) then some (.tbl #[]) else none
  have hT : ∀ p ∈ cs, H p.2 = some (.tbl #[]) := fun p hp => if_pos (mem2 p hp)
  have inH : ∀ {b u}, H b = some u → b ∈ cs.map (·.2) ∧ u = .tbl #[] := fun {b u} e => by
   by_cases hb : b ∈ cs.map (·.2)
   ·exact ⟨hb, (Option.some.inj ((show H b = some (.tbl #[]) from if_pos hb).symm.trans e)).symm⟩
   ·rw [show H b = none from if_neg hb] at e; cases e
  refine base H hT (fun b => ?_) (fun b u e => ?_) (fun b u e => .inr (inH e).1) (fun u e => absurd (inH e).1 ant) ⟨a, ns, rfl, tb0 hT, ⟨fun _ => none, (fun b u z => by cases z), fun _ _ => rfl, .inr ⟨_, vs.toArray, _, hk, rfl, rfl, rfl, sz, by simpa using rv⟩⟩, hlen, fun _ => rfl⟩ fun e z => hCX _ _ e z
  ·by_cases hb : b ∈ cs.map (·.2)
   ·exact .inr (.inl hb)
   ·exact .inl (if_neg hb)
  ·obtain ⟨hb, rfl⟩ := inH e
   obtain ⟨p, hp, e2⟩ := List.mem_map.mp hb
   rw [← e2]
   exact (both p hp).2
 | none =>
  let so : HO := .frz { cls := .type "list", data := .seq vs.toArray } (.lst (ns.map V.int))
  let J : Hp := fun b => if b = a then some so else none
  let H : Hp := fun b => if b = a then some so else if b ∈ cs.map (·.2) then some (.tbl #[]) else none
  have Ha : H a = some so := if_pos rfl
  have hT : ∀ p ∈ cs, H p.2 = some (.tbl #[]) := fun p hp => by
   show (if p.2 = a then _ else _) = _
   rw [if_neg (fun z => ant (by rw [← z]; exact mem2 p hp)), if_pos (mem2 p hp)]
  have inH : ∀ {b u}, H b = some u → (b = a ∧ u = so) ∨ (b ∈ cs.map (·.2) ∧ u = .tbl #[]) := fun {b u} e => by
   by_cases hb : b = a
   ·subst hb; rw [Ha] at e; exact .inl ⟨rfl, (Option.some.inj e).symm⟩
   ·have e : (if b = a then some so else if b ∈ cs.map (·.2) then some (HO.tbl #[]) else none) = some u := e
    rw [if_neg hb] at e
    split at e
    ·rename_i h2; exact .inr ⟨h2, (Option.some.inj e).symm⟩
    ·cases e
  have hJ : Same J H := fun b u e => by
   by_cases hb : b = a
   ·subst hb
    rw [show J b = some so from if_pos rfl] at e
    rw [Ha]; exact e
   ·rw [show J b = none from if_neg hb] at e; cases e
  refine base H hT (fun b => ?_) (fun b u e => ?_) (fun b u e => (inH e).imp (·.1) (·.1)) (fun u e => hk) ⟨a, ns, rfl, tb0 hT, ⟨J, hJ, fun p hp => if_neg (fun z => ant (by rw [← z]; exact mem2 p hp)), .inl (.inr ⟨_, if_pos rfl⟩)⟩, hlen, fun _ => rfl⟩ fun e z => hCX _ _ e z
  ·match q : H b with
   | none => exact .inl rfl
   | some u =>
    rcases inH q with ⟨_, rfl⟩ | ⟨h2, _⟩
    ·exact .inr (.inr ⟨_, _, rfl⟩)
    ·exact .inr (.inl h2)
  ·rcases inH e with ⟨rfl, rfl⟩ | ⟨hb, rfl⟩
   ·exact ⟨ha, hz, vs, _, rv, ha⟩
   ·obtain ⟨p, hp, e2⟩ := List.mem_map.mp hb
    rw [← e2]
    exact (both p hp).2
theorem ph {α : Type} {t : Option α} {y s : String} {v b : α} (h : (if y = s then some v else t) = some b) : (y = s ∧ v = b) ∨ t = some b := by
 by_cases e : y = s
 ·rw [if_pos e] at h; cases h; exact .inl ⟨e, rfl⟩
 ·rw [if_neg e] at h; exact .inr h
end Q
namespace Q
open PySem PySem.Spec PyProof.Rows L2
def yH (K : PySem.W.Frag) (cl : String → Option Addr) (mg : Str → Option Value) (B : Str) (sub : String → Option Bool) : Prop := ∃ CB, mg B = some (.ref CB) ∧ ∀ s D b, cl s = some D → sub s = some b → ExcC K D ∧ PySem.W.kitOne K (.ref D) (.ref CB) = some b
theorem yR {Z : Zc} {B : Str} {sub : String → Option Bool} (h : yH Z.K Z.cl Z.mg B sub) (hg : GlZ Z B) (hd : (B == ("__debug__" : Str)) = false := by decide) : yj Z B sub := by
 obtain ⟨CB, h1, h2⟩ := h
 refine ⟨.ref CB, .ref CB, fun X i p => pe_glob (eL i hg) (by rw [i.mg]; exact h1) rfl hd, fun X a oe pn i p => pe_glob (X := X.suite a ((a, oe) :: pn)) (show Gl (X.suite a ((a, oe) :: pn)) B from eL (X := X) i hg) (by show X.mg _ = _; rw [i.mg]; exact h1) rfl hd, fun u r => r, h2⟩
end Q
namespace Q
open PySem PyProof PyProof.Rows L2
end Q
namespace Q
open PySem PySem.Spec PyProof.Rows L2
end Q
namespace Q
open PySem PyProof PyProof.Rows L2
end Q
namespace Q
open PySem PySem.Spec PyProof.Rows L2
end Q
namespace Q
open PySem PySem.Spec PyProof.Rows L2
section
variable {Z : Zc} {i : Nat}
def rJ (n : String) (m : MUV) : MUV := fun c ks cs => match m c ks cs with
 | some (.fix d) => (vd [d, .typ n]).map .fix
 | _ => none
theorem vg {e : Expr} {n : String} {m : MUV} {p0 pB pos : Pos} (hg : GlZ Z "isinstance") (hm : Z.mg "isinstance" = none) (hb : GlZ Z n) (hbm : Z.mg n = none) (hbt : bootBuiltins n = some (.type n)) (h : CUV Z i e m) (hn : (n : Str) ≠ "__name__" := by decide) (hdb : ((n : Str) == ("__debug__" : Str)) = false := by decide)
  (he : ∀ env, starEach [e, .Name n pB] env = (false, eval e env) :: starEach [.Name n pB] env := by intro _; rfl) (he2 : ∀ env, starEach [.Name n pB] env = (false, eval (.Name n pB) env) :: starEach [] env := by intro _; rfl)
  (hpl : ∀ env, (backTo pos (starEach [.Name n pB] env)).any (·.1) = false := by intro _; rfl) :
  CUV Z i (.Call (.Name "isinstance" p0) [e, .Name n pB] [] pos) (rJ n m) := by
 obtain ⟨t, h1, h2⟩ := h
 refine ⟨fun a cls d => tCB (rIsi Z.K) (tCons (t a cls d) (tCons (tC (.ty n)) tNil)), fun X a oe cls d pn k hz hf => ?_, fun g M As env σ I H Q cv2 a C d c ks cs vs R ha hC rs hk hd2 hm k => ?_⟩
 ·have q : CallR (X.suite a ((a, oe) :: pn)) (.builtin "isinstance") (rIsi (X.suite a ((a, oe) :: pn)).K) := call_isi
  have hK : (X.suite a ((a, oe) :: pn)).K = Z.K := k.K
  rw [hK] at q
  refine pe_callB (X := X.suite a ((a, oe) :: pn)) q (show Gl (X.suite a ((a, oe) :: pn)) "isinstance" from eL (X := X) k hg) (by show X.mg _ = none; rw [k.mg]; exact hm) (by decide +kernel) (pa_cons (h1 X a oe cls d pn k hz hf) (pa_cons ?_ pa_nil (he2 _)) (he _)) (by decide) (by decide) (he _) (hpl _)
  exact pe_bltn (X := X.suite a ((a, oe) :: pn)) (show Gl (X.suite a ((a, oe) :: pn)) n from eL (X := X) k hb) (by show X.mg _ = none; rw [k.mg]; exact hbm) hbt rfl hn hdb
 ·unfold rJ at hm
  split at hm
  ·rename_i dd e0
   obtain ⟨z, e1, e2⟩ := Option.map_eq_some_iff.mp hm
   subst e2
   refine h2 g M As env σ I H _ _ a C d c ks cs vs R ha hC rs hk hd2 e0 fun v rv => ?_
   have rb := R.rbs (cs := [.fix dd, .fix (.typ n)]) (vs := [v, .ty n]) (.cons rv (.cons (.fix .typ) .nil)) (show rq M [.fix dd, .fix (.typ n)] = some [dd, .typ n] from rfl)
   exact y8 I H _ z _ Q R.sub rb e1 fun u ru => k u (.fix ru)
  ·cases hm
end
end Q
namespace Q
open PySem L2
theorem lvv {Z : Zc} (i : Nat) {x : Str} {pos : Pos} (hN : Z.N[i]? = some x := by rfl) (hv : Vis Z.sc x := by first | exact Or.inl rfl | exact Or.inr (Or.inl rfl) | exact Or.inr (Or.inr rfl)) (hd : (x == ("__debug__" : Str)) = false := by decide) (hcd : (x == ("__classdict__" : Str)) = false := by decide) : LV Z (.Name x pos) (af i) := zp hN hv hd hcd
theorem cvv {Z : Zc} (i : Nat) {x : Str} {pos : Pos} (hN : Z.N[i]? = some x := by rfl) (hv : Vis Z.sc x := by first | exact Or.inl rfl | exact Or.inr (Or.inl rfl) | exact Or.inr (Or.inr rfl)) (hd : (x == ("__debug__" : Str)) = false := by decide) (hcd : (x == ("__classdict__" : Str)) = false := by decide) : CEV Z (.Name x pos) (de i) := xA hN hv hd hcd
theorem evv {Z : Zc} (i : Nat) {x : Str} {pos : Pos} (hN : Z.N[i]? = some x := by rfl) (hv : Vis Z.sc x := by first | exact Or.inl rfl | exact Or.inr (Or.inl rfl) | exact Or.inr (Or.inr rfl)) (hd : (x == ("__debug__" : Str)) = false := by decide) (hcd : (x == ("__classdict__" : Str)) = false := by decide) : EV Z (.Name x pos) (au i) := za hN hv hd hcd
theorem gcn {Z : Zc} (i : Nat) {x : Str} {p : Pos} (hN : Z.N[i]? = some x := by rfl) (hv : jo Z x := by first | exact Or.inr rfl | exact Or.inl ⟨rfl, Or.inl rfl⟩ | exact Or.inl ⟨rfl, Or.inr rfl⟩) : GVC Z (.Name x p) [i] (gNC i) := uP hN hv
theorem gvn {Z : Zc} (i : Nat) {x : Str} {p : Pos} (hN : Z.N[i]? = some x := by rfl) (hv : jo Z x := by first | exact Or.inr rfl | exact Or.inl ⟨rfl, Or.inl rfl⟩ | exact Or.inl ⟨rfl, Or.inr rfl⟩) : GV Z (.Name x p) [i] (gN i) := xt hN hv
theorem saf {Z : Zc} (i : Nat) {x : Str} {e : Expr} {m : ME} {p pos : Pos} (h : EF Z e m) (hN : Z.N[i]? = some x := by rfl) (hv : jo Z x := by first | exact Or.inr rfl | exact Or.inl ⟨rfl, Or.inl rfl⟩ | exact Or.inl ⟨rfl, Or.inr rfl⟩) (hs : ∀ env, swapsWithSole [.Name x p] e pos.line env = pure false := by intro _; rfl) (hw : ∀ env, swappedStores [.Name x p] e env = pure none := by intro _; rfl) (h1 : ∀ env, (assignEach [.Name x p] env).map (·.2) = [assign (.Name x p) env] := by intro _; rfl) : SV Z (.Assign [.Name x p] e pos) (d8 i m) := wO hN hv h hs hw h1
theorem sva {Z : Zc} (i : Nat) {x : Str} {e : Expr} {m : ME} {p pos : Pos} (h : EV Z e m) (hN : Z.N[i]? = some x := by rfl) (hv : jo Z x := by first | exact Or.inr rfl | exact Or.inl ⟨rfl, Or.inl rfl⟩ | exact Or.inl ⟨rfl, Or.inr rfl⟩) (hs : ∀ env, swapsWithSole [.Name x p] e pos.line env = pure false := by intro _; rfl) (hw : ∀ env, swappedStores [.Name x p] e env = pure none := by intro _; rfl) (h1 : ∀ env, (assignEach [.Name x p] env).map (·.2) = [assign (.Name x p) env] := by intro _; rfl) : SV Z (.Assign [.Name x p] e pos) (bL i m) := yL hN hv h hs hw h1
end Q
namespace Law
open PySem L2 Q
def top (i : Nat) : Stmt := PySem.Challenge.pw_clearfloor_k25_lines_of_a_report.main.body.getD i (.Pass ⟨0, 0, 0, 0⟩)
def d9 : String → Option Bool := fun s => if s = "LineError" then some true else none
def fD : String → Option Bool := fun s => if s = "LineError" then some true else none
structure Txt (c : Pc) : Prop where
 b_any : c.mg "any" = none
 b_bool : c.mg "bool" = none
 b_enumerate : c.mg "enumerate" = none
 b_int : c.mg "int" = none
 b_isinstance : c.mg "isinstance" = none
 b_len : c.mg "len" = none
 b_range : c.mg "range" = none
 b_str : c.mg "str" = none
 c_FIGURES : ∃ t, c.mg "FIGURES" = some (.str "0123456789" t)
 c_MOST_FIGURES : ∃ t, c.mg "MOST_FIGURES" = some (.int 6 t)
 c_STATIONS : ∃ t, c.mg "STATIONS" = some (.str "ABCDEFGH" t)
 xc_ClearfloorError : ∃ cv, c.mg "ClearfloorError" = some cv ∧ ∀ s C b, c.cl s = some C → d9 s = some b → PySem.W.exmOne c.K (.ref C) cv = some b
 xt_LineError : yH c.K c.cl c.mg "LineError" fD
 xf_LineError : ∃ C0, c.cl "LineError" = some C0 ∧ XfC c.K C0 ∧ PySem.W.findIn c.K (.ref C0) "line" = some none
abbrev kj : Stmt := top 23
abbrev mS : List Str := ["script", "k"]
theorem Be : FnScope mS ["script", "k"] (defScope kj) := ⟨rfl, rfl, rfl, by decide +kernel, rfl, by decide +kernel, by decide +kernel⟩
def kF : MS :=
  (aH (bx (aq (ae dLt (af 1) (aa (mBi bT (aM (af 0) aY)))))
  (be (ae dIx (af 0) (af 1)))
  bC)
  (be (mC (.int 0))))
theorem Dr {c : Pc} (T : Txt c) : BV (c.z 0 mS (defScope kj)) (defBody kj) kF :=
  (ax (bN (aS (fun _ _ => op_lt) dY (lvv 1) (ah (cP (fun _ h => dy h) dC (by rfl) T.b_len (by decide +kernel) (bJ (lvv 0) bV))) (nomark _))
  (aF (aU (bq (lvv 0) (lvv 1))))
  bF)
  (aF (aU ao)))
theorem Co {c : Pc} {f : Addr} {fd : FuncData} (T : Txt c) (F : Fun c.K "_law_cell" "_law_cell" kj f fd) (hm : c.mg "_law_cell" = some (.ref f)) : FnC c 1 "_law_cell" mS 2 kF :=
 ⟨f, fd, ["script", "k"], cQ F Be (Dr T), hm, F.kp, F.binds (ps := ["script", "k"]) fun _ _ _ _ _ _ us hl => match us, hl with | [_, _], _ => rfl⟩
abbrev kY : Stmt := top 24
abbrev kr : List Str := ["script", "first", "last", "digits", "k", "cell", "turn", "seed"]
theorem Bt : FnScope kr ["script", "first", "last"] (defScope kY) := ⟨rfl, rfl, rfl, by decide +kernel, rfl, by decide +kernel, by decide +kernel⟩
def jN : MS :=
  (aH (d8 3 (b8 aN))
  (aH (eT (iR2 (aj (au 1) (aj (au 2) aN))) (gN 4)
  (aH (bL 5 (ak mS 2 kF (aC (au 0) (aC (au 4) aA))))
  (aH (bx (aq (ae dLt (af 5) (aa (mC (.int 0)))))
  (bL 5 (ae pV (aa (mC (.int 1))) (aa (ae dS (aa (mC (.int 2))) (af 5)))))
  bC)
  (bx (aq (ae dGe (af 5) (aa (ae qa (aa (mC (.int 10))) (aa (mC (.int 18)))))))
  (eT (iR1 (aj (mC (.int 60)) aN)) (gN 6)
  (bx (aq (ae dGt (af 5) (aa (mC (.int 0)))))
  (aH (gJ 3 (ae gp (aa (mBi ir (aM (af 5) aY))) (aa (mC (.int 1000)))))
  (bL 5 (ae jT (af 5) (aa (mC (.int 1000))))))
  bC))
  (aH (bL 7 (ae gp (aa (mBi ir (aM (aa (ae aK (aa (ae aK (aa (ae dS (af 5) (aa (mC (.int 48271))))) (aa (ae dS (af 4) (aa (mC (.int 69621))))))) (aa (mC (.int 11))))) aY))) (aa (mC (.int 2147483647)))))
  (eT (iR1 (aj (mC (.int 12)) aN)) (gN 6)
  (aH (bL 7 (ae gp (aa (mBi ir (aM (aa (ae aK (aa (ae aK (aa (ae dS (af 7) (aa (mC (.int 16807))))) (aa (ae dS (aa (mC (.int 7))) (af 6))))) (aa (mC (.int 1))))) aY))) (aa (mC (.int 2147483647)))))
  (gJ 3 (ae gp (aa (mBi ir (aM (aa (ae jT (af 7) (aa (mC (.int 997))))) aY))) (aa (mC (.int 1000))))))))))))
  (jS 3)))
theorem DG {c : Pc} (T : Txt c) (G_z1 : FnC c 1 "_law_cell" mS 2 kF) : BV (c.z 1 kr (defScope kY)) (defBody kY) jN :=
  (ax (saf 3 (dG bE))
  (ax (jv (xk (by rfl) T.b_range (az (evv 1) (az (evv 2) bE))) (gvn 4)
  (ax (sva 5 (aR (G_z1.z (by decide)) (by rfl) (bc (evv 0) (bc (evv 4) aZ))))
  (ax (bN (aS (fun _ _ => op_lt) dY (lvv 5) (ah ao) (nomark _))
  (aF (sva 5 (aX (fun _ _ => op_sub) y6 (ah ao) (ah (aX (fun _ _ => op_mul) jy (ah ao) (lvv 5))))))
  bF)
  (aF (bN (aS (fun _ _ => op_ge) dY (lvv 5) (ah (aX (fun _ _ => op_pow) y5 (ah ao) (ah ao))) (nomark _))
  (aF (jv (gE (by rfl) T.b_range (az ao bE)) (gvn 6)
  (aF (bN (aS (fun _ _ => op_gt) dY (lvv 5) (ah ao) (nomark _))
  (ax (fZ (i := 3) rfl (by first | exact Or.inl rfl | exact Or.inr (Or.inl rfl) | exact Or.inr (Or.inr rfl)) (aX (fun _ _ => op_mod) kE (ah (cH (fun _ _ => lr) lj (by rfl) T.b_int (by decide +kernel) (bJ (lvv 5) bV))) (ah ao)))
  (aF (sva 5 (aX (fun _ _ => op_fdiv) sX (lvv 5) (ah ao)))))
  bF))))
  (ax (sva 7 (aX (fun _ _ => op_mod) kE (ah (cH (fun _ _ => lr) lj (by rfl) T.b_int (by decide +kernel) (bJ (ah (aX (fun _ _ => bj) bf (ah (aX (fun _ _ => bj) bf (ah (aX (fun _ _ => op_mul) jy (lvv 5) (ah ao))) (ah (aX (fun _ _ => op_mul) jy (lvv 4) (ah ao))))) (ah ao))) bV))) (ah ao)))
  (aF (jv (gE (by rfl) T.b_range (az ao bE)) (gvn 6)
  (ax (sva 7 (aX (fun _ _ => op_mod) kE (ah (cH (fun _ _ => lr) lj (by rfl) T.b_int (by decide +kernel) (bJ (ah (aX (fun _ _ => bj) bf (ah (aX (fun _ _ => bj) bf (ah (aX (fun _ _ => op_mul) jy (lvv 7) (ah ao))) (ah (aX (fun _ _ => op_mul) jy (ah ao) (lvv 6))))) (ah ao))) bV))) (ah ao)))
  (aF (fZ (i := 3) rfl (by first | exact Or.inl rfl | exact Or.inr (Or.inl rfl) | exact Or.inr (Or.inr rfl)) (aX (fun _ _ => op_mod) kE (ah (cH (fun _ _ => lr) lj (by rfl) T.b_int (by decide +kernel) (bJ (ah (aX (fun _ _ => op_fdiv) sX (lvv 7) (ah ao))) bV))) (ah ao)))))))))))))
  (aF (qr (i := 3) rfl (by first | exact Or.inl rfl | exact Or.inr (Or.inl rfl) | exact Or.inr (Or.inr rfl))))))
theorem Ct {c : Pc} {f : Addr} {fd : FuncData} (T : Txt c) (F : Fun c.K "_law_digits" "_law_digits" kY f fd) (hm : c.mg "_law_digits" = some (.ref f)) (G_z1 : FnC c 1 "_law_cell" mS 2 kF) : FnC c 2 "_law_digits" kr 3 jN :=
 ⟨f, fd, ["script", "first", "last"], cQ F Bt (DG T G_z1), hm, F.kp, F.binds (ps := ["script", "first", "last"]) fun _ _ _ _ _ _ us hl => match us, hl with | [_, _, _], _ => rfl⟩
abbrev kI : Stmt := top 25
abbrev bK : List Str := ["box", "many", "at"]
theorem Bh : FnScope bK ["box", "many"] (defScope kI) := ⟨rfl, rfl, rfl, by decide +kernel, rfl, by decide +kernel, by decide +kernel⟩
def bH : MS :=
  (aH (bL 2 (ae dIx (af 0) (aa (mC (.int 1)))))
  (aH (nk 0 (ae aK (af 2) (aa (mC (.int 1)))) (mC (.int 1)))
  (aH (bx (aq (ae dLt (af 2) (aa (mBi bT (aM (aa (ae dIx (af 0) (aa (mC (.int 0))))) aY)))))
  (be (ae gp (aa (mBi ir (aM (aa (ae dIx (aa (ae dIx (af 0) (aa (mC (.int 0))))) (af 2))) aY))) (af 1)))
  bC)
  (be (mC (.int 0))))))
theorem Ck {c : Pc} (T : Txt c) : BV (c.z 0 bK (defScope kI)) (defBody kI) bH :=
  (ax (sva 2 (bq (lvv 0) (ah ao)))
  (ax (wR (i := 0) rfl (by first | exact Or.inl rfl | exact Or.inr (Or.inl rfl) | exact Or.inr (Or.inr rfl)) (aX (fun _ _ => bj) bf (lvv 2) (ah ao)) ao)
  (ax (bN (aS (fun _ _ => op_lt) dY (lvv 2) (ah (cP (fun _ h => dy h) dC (by rfl) T.b_len (by decide +kernel) (bJ (ah (bq (lvv 0) (ah ao))) bV))) (nomark _))
  (aF (aU (aX (fun _ _ => op_mod) kE (ah (cH (fun _ _ => lr) lj (by rfl) T.b_int (by decide +kernel) (bJ (ah (bq (ah (bq (lvv 0) (ah ao))) (lvv 2))) bV))) (lvv 1))))
  bF)
  (aF (aU ao)))))
theorem Cg {c : Pc} {f : Addr} {fd : FuncData} (T : Txt c) (F : Fun c.K "_law_draw" "_law_draw" kI f fd) (hm : c.mg "_law_draw" = some (.ref f)) : FnC c 1 "_law_draw" bK 2 bH :=
 ⟨f, fd, ["box", "many"], cQ F Bh (Ck T), hm, F.kp, F.binds (ps := ["box", "many"]) fun _ _ _ _ _ _ us hl => match us, hl with | [_, _], _ => rfl⟩
abbrev kv : Stmt := top 26
abbrev iU : List Str := ["box"]
theorem Bo : FnScope iU ["box"] (defScope kv) := ⟨rfl, rfl, rfl, by decide +kernel, rfl, by decide +kernel, by decide +kernel⟩
def ij : MS :=
  (be (cN (aj (ak bK 2 bH (cIo 0 (aC (mC (.int 16)) aA))) (aj (ak bK 2 bH (cIo 0 (aC (mC (.int 16)) aA))) aN))))
theorem Dq {c : Pc} (T : Txt c) (G_zz : FnC c 1 "_law_draw" bK 2 bH) : BV (c.z 1 iU (defScope kv)) (defBody kv) ij :=
  (aF (aU (ey (az (aR (G_zz.z (by decide)) (by rfl) (da (i := 0) rfl (by first | exact Or.inl rfl | exact Or.inr (Or.inl rfl) | exact Or.inr (Or.inr rfl)) (bc ao aZ))) (az (aR (G_zz.z (by decide)) (by rfl) (da (i := 0) rfl (by first | exact Or.inl rfl | exact Or.inr (Or.inl rfl) | exact Or.inr (Or.inr rfl)) (bc ao aZ))) bE)))))
theorem C3 {c : Pc} {f : Addr} {fd : FuncData} (T : Txt c) (F : Fun c.K "_law_place" "_law_place" kv f fd) (hm : c.mg "_law_place" = some (.ref f)) (G_zz : FnC c 1 "_law_draw" bK 2 bH) : FnC c 2 "_law_place" iU 1 ij :=
 ⟨f, fd, ["box"], cQ F Bo (Dq T G_zz), hm, F.kp, F.binds (ps := ["box"]) fun _ _ _ _ _ _ us hl => match us, hl with | [_], _ => rfl⟩
abbrev lN : Stmt := top 27
abbrev gb : List Str := ["box", "kind"]
theorem AK : FnScope gb ["box"] (defScope lN) := ⟨rfl, rfl, rfl, by decide +kernel, rfl, by decide +kernel, by decide +kernel⟩
def fT : MS :=
  (aH (bL 1 (ak bK 2 bH (cIo 0 (aC (mC (.int 3)) aA))))
  (aH (bx (aq (ae (aG false) (af 1) (aa (mC (.int 0)))))
  (be (ak bK 2 bH (cIo 0 (aC (mC (.int 10)) aA))))
  bC)
  (aH (bx (aq (ae (aG false) (af 1) (aa (mC (.int 1)))))
  (be (ae aK (aa (ae dS (aa (ak bK 2 bH (cIo 0 (aC (mC (.int 1000)) aA)))) (aa (mC (.int 1000))))) (aa (ak bK 2 bH (cIo 0 (aC (mC (.int 1000)) aA))))))
  bC)
  (be (ak bK 2 bH (cIo 0 (aC (mC (.int 1000)) aA)))))))
theorem C4 {c : Pc} (T : Txt c) (G_zz : FnC c 1 "_law_draw" bK 2 bH) : BV (c.z 1 gb (defScope lN)) (defBody lN) fT :=
  (ax (sva 1 (aR (G_zz.z (by decide)) (by rfl) (da (i := 0) rfl (by first | exact Or.inl rfl | exact Or.inr (Or.inl rfl) | exact Or.inr (Or.inr rfl)) (bc ao aZ))))
  (ax (bN (aS (fun _ h => or_eq h) dj (lvv 1) (ah ao) (nomark _))
  (aF (aU (aR (G_zz.z (by decide)) (by rfl) (da (i := 0) rfl (by first | exact Or.inl rfl | exact Or.inr (Or.inl rfl) | exact Or.inr (Or.inr rfl)) (bc ao aZ)))))
  bF)
  (ax (bN (aS (fun _ h => or_eq h) dj (lvv 1) (ah ao) (nomark _))
  (aF (aU (aX (fun _ _ => bj) bf (ah (aX (fun _ _ => op_mul) jy (ah (aR (G_zz.z (by decide)) (by rfl) (da (i := 0) rfl (by first | exact Or.inl rfl | exact Or.inr (Or.inl rfl) | exact Or.inr (Or.inr rfl)) (bc ao aZ)))) (ah ao))) (ah (aR (G_zz.z (by decide)) (by rfl) (da (i := 0) rfl (by first | exact Or.inl rfl | exact Or.inr (Or.inl rfl) | exact Or.inr (Or.inr rfl)) (bc ao aZ)))))))
  bF)
  (aF (aU (aR (G_zz.z (by decide)) (by rfl) (da (i := 0) rfl (by first | exact Or.inl rfl | exact Or.inr (Or.inl rfl) | exact Or.inr (Or.inr rfl)) (bc ao aZ))))))))
theorem Dz {c : Pc} {f : Addr} {fd : FuncData} (T : Txt c) (F : Fun c.K "_law_number" "_law_number" lN f fd) (hm : c.mg "_law_number" = some (.ref f)) (G_zz : FnC c 1 "_law_draw" bK 2 bH) : FnC c 2 "_law_number" gb 1 fT :=
 ⟨f, fd, ["box"], cQ F AK (C4 T G_zz), hm, F.kp, F.binds (ps := ["box"]) fun _ _ _ _ _ _ us hl => match us, hl with | [_], _ => rfl⟩
abbrev j9 : Stmt := top 28
abbrev kq : List Str := ["box", "kind", "place", "way", "order", "loaded", "k"]
theorem AD : FnScope kq ["box"] (defScope j9) := ⟨rfl, rfl, rfl, by decide +kernel, rfl, by decide +kernel, by decide +kernel⟩
def lM : MS :=
  (aH (bL 1 (ak bK 2 bH (cIo 0 (aC (mC (.int 6)) aA))))
  (aH (bL 2 (mC .non))
  (aH (bL 3 (b8 aN))
  (aH (bx (aq (ae dGt (af 1) (aa (mC (.int 0)))))
  (bL 2 (ak iU 1 ij (cIo 0 aA)))
  bC)
  (aH (bx (aq (ae dGt (af 1) (aa (mC (.int 1)))))
  (d8 3 (mLc [6] (iR1 (aj (ae aK (aa (mC (.int 1))) (aa (ak bK 2 bH (cIo 0 (aC (mC (.int 4)) aA))))) aN)) (gN 6) cZ (ak iU 1 ij (cIo 0 aA))))
  bC)
  (aH (bL 4 (mC .non))
  (aH (bL 5 (mC (.bl false)))
  (aH (bx (aq (ae (aG false) (aa (ak bK 2 bH (cIo 0 (aC (mC (.int 2)) aA)))) (aa (mC (.int 0)))))
  (aH (bL 4 (ak gb 1 fT (cIo 0 aA)))
  (bL 5 (ae (aG false) (aa (ak bK 2 bH (cIo 0 (aC (mC (.int 2)) aA)))) (aa (mC (.int 0))))))
  bC)
  (be (cN (aj (au 2) (aj (ae (aG false) (aa (ak bK 2 bH (cIo 0 (aC (mC (.int 2)) aA)))) (aa (mC (.int 0)))) (aj (au 4) (aj (au 5) (aj (au 3) aN)))))))))))))))
theorem Cn {c : Pc} (T : Txt c) (G_zz : FnC c 1 "_law_draw" bK 2 bH) (G_zt : FnC c 2 "_law_place" iU 1 ij) (G_zr : FnC c 2 "_law_number" gb 1 fT) : BV (c.z 2 kq (defScope j9)) (defBody j9) lM :=
  (ax (sva 1 (aR (G_zz.z (by decide)) (by rfl) (da (i := 0) rfl (by first | exact Or.inl rfl | exact Or.inr (Or.inl rfl) | exact Or.inr (Or.inr rfl)) (bc ao aZ))))
  (ax (sva 2 bM)
  (ax (sva 3 (dG bE).ev)
  (ax (bN (aS (fun _ _ => op_gt) dY (lvv 1) (ah ao) (nomark _))
  (aF (sva 2 (aR (G_zt.z (by decide)) (by rfl) (da (i := 0) rfl (by first | exact Or.inl rfl | exact Or.inr (Or.inl rfl) | exact Or.inr (Or.inr rfl)) aZ))))
  bF)
  (ax (bN (aS (fun _ _ => op_gt) dY (lvv 1) (ah ao) (nomark _))
  (aF (gQ (i := 3) (own := ([("k", 6)] : List (Str × Nat))) rfl rfl rfl (gE (by rfl) T.b_range (az (aX (fun _ _ => bj) bf (ah ao) (ah (aR (G_zz.z (by decide)) (by rfl) (da (i := 0) rfl (by first | exact Or.inl rfl | exact Or.inr (Or.inl rfl) | exact Or.inr (Or.inr rfl)) (bc ao aZ))))) bE)) (blkOk_by (N := kq) (sc := defScope j9) (own := ([("k", 6)] : List (Str × Nat))) (by decide +kernel)) (gvn 6) gh (aR (G_zt.zb (by decide)) (by rfl) (da (i := 0) rfl (by first | exact Or.inl rfl | exact Or.inr (Or.inl rfl) | exact Or.inr (Or.inr rfl)) aZ)) (hl := by rfl) (ha := by decide +kernel)))
  bF)
  (ax (sva 4 bM)
  (ax (sva 5 fw)
  (ax (bN (aS (fun _ h => or_eq h) dj (ah (aR (G_zz.z (by decide)) (by rfl) (da (i := 0) rfl (by first | exact Or.inl rfl | exact Or.inr (Or.inl rfl) | exact Or.inr (Or.inr rfl)) (bc ao aZ)))) (ah ao) (nomark _))
  (ax (sva 4 (aR (G_zr.z (by decide)) (by rfl) (da (i := 0) rfl (by first | exact Or.inl rfl | exact Or.inr (Or.inl rfl) | exact Or.inr (Or.inr rfl)) aZ)))
  (aF (sva 5 (gA (fun _ h => or_eq h) dj (ah (aR (G_zz.z (by decide)) (by rfl) (da (i := 0) rfl (by first | exact Or.inl rfl | exact Or.inr (Or.inl rfl) | exact Or.inr (Or.inr rfl)) (bc ao aZ)))) (ah ao) (nomark _)))))
  bF)
  (aF (aU (ey (az (evv 2) (az (gA (fun _ h => or_eq h) dj (ah (aR (G_zz.z (by decide)) (by rfl) (da (i := 0) rfl (by first | exact Or.inl rfl | exact Or.inr (Or.inl rfl) | exact Or.inr (Or.inr rfl)) (bc ao aZ)))) (ah ao) (nomark _)) (az (evv 4) (az (evv 5) (az (evv 3) bE))))))))))))))))
theorem C1 {c : Pc} {f : Addr} {fd : FuncData} (T : Txt c) (F : Fun c.K "_law_robot" "_law_robot" j9 f fd) (hm : c.mg "_law_robot" = some (.ref f)) (G_zz : FnC c 1 "_law_draw" bK 2 bH) (G_zt : FnC c 2 "_law_place" iU 1 ij) (G_zr : FnC c 2 "_law_number" gb 1 fT) : FnC c 3 "_law_robot" kq 1 lM :=
 ⟨f, fd, ["box"], cQ F AD (Cn T G_zz G_zt G_zr), hm, F.kp, F.binds (ps := ["box"]) fun _ _ _ _ _ _ us hl => match us, hl with | [_], _ => rfl⟩
abbrev kO : Stmt := top 29
abbrev mM : List Str := ["box", "kind", "start", "goal"]
theorem AF : FnScope mM ["box"] (defScope kO) := ⟨rfl, rfl, rfl, by decide +kernel, rfl, by decide +kernel, by decide +kernel⟩
def kK : MS :=
  (aH (bL 1 (ak bK 2 bH (cIo 0 (aC (mC (.int 4)) aA))))
  (aH (bL 2 (ae dIx (aa (mC (.str "ABCDEFGH"))) (aa (ak bK 2 bH (cIo 0 (aC (mC (.int 8)) aA))))))
  (aH (bL 3 (ae dIx (aa (mC (.str "ABCDEFGH"))) (aa (ak bK 2 bH (cIo 0 (aC (mC (.int 8)) aA))))))
  (aH (bx (aq (ae dLt (af 1) (aa (mC (.int 2)))))
  (be (cN (aj (au 2) (aj (au 3) (aj (ae (aG false) (af 1) (aa (mC (.int 0)))) (aj (mC .non) (aj (mC (.bl false)) aN)))))))
  bC)
  (be (cN (aj (au 2) (aj (au 3) (aj (mC (.bl false)) (aj (ak gb 1 fT (cIo 0 aA)) (aj (ae (aG false) (af 1) (aa (mC (.int 2)))) aN)))))))))))
theorem Cs {c : Pc} (T : Txt c) (G_zz : FnC c 1 "_law_draw" bK 2 bH) (G_zr : FnC c 2 "_law_number" gb 1 fT) : BV (c.z 2 mM (defScope kO)) (defBody kO) kK :=
  (ax (sva 1 (aR (G_zz.z (by decide)) (by rfl) (da (i := 0) rfl (by first | exact Or.inl rfl | exact Or.inr (Or.inl rfl) | exact Or.inr (Or.inr rfl)) (bc ao aZ))))
  (ax (sva 2 (bq (ah aJ) (ah (aR (G_zz.z (by decide)) (by rfl) (da (i := 0) rfl (by first | exact Or.inl rfl | exact Or.inr (Or.inl rfl) | exact Or.inr (Or.inr rfl)) (bc ao aZ))))))
  (ax (sva 3 (bq (ah aJ) (ah (aR (G_zz.z (by decide)) (by rfl) (da (i := 0) rfl (by first | exact Or.inl rfl | exact Or.inr (Or.inl rfl) | exact Or.inr (Or.inr rfl)) (bc ao aZ))))))
  (ax (bN (aS (fun _ _ => op_lt) dY (lvv 1) (ah ao) (nomark _))
  (aF (aU (ey (az (evv 2) (az (evv 3) (az (gA (fun _ h => or_eq h) dj (lvv 1) (ah ao) (nomark _)) (az bM (az fw bE))))))))
  bF)
  (aF (aU (ey (az (evv 2) (az (evv 3) (az fw (az (aR (G_zr.z (by decide)) (by rfl) (da (i := 0) rfl (by first | exact Or.inl rfl | exact Or.inr (Or.inl rfl) | exact Or.inr (Or.inr rfl)) aZ)) (az (gA (fun _ h => or_eq h) dj (lvv 1) (ah ao) (nomark _)) bE))))))))))))
theorem Dt {c : Pc} {f : Addr} {fd : FuncData} (T : Txt c) (F : Fun c.K "_law_order" "_law_order" kO f fd) (hm : c.mg "_law_order" = some (.ref f)) (G_zz : FnC c 1 "_law_draw" bK 2 bH) (G_zr : FnC c 2 "_law_number" gb 1 fT) : FnC c 3 "_law_order" mM 1 kK :=
 ⟨f, fd, ["box"], cQ F AF (Cs T G_zz G_zr), hm, F.kp, F.binds (ps := ["box"]) fun _ _ _ _ _ _ us hl => match us, hl with | [_], _ => rfl⟩
abbrev jj : Stmt := top 30
abbrev kM : List Str := ["box", "robots", "orders", "k"]
theorem Bm : FnScope kM ["box"] (defScope jj) := ⟨rfl, rfl, rfl, by decide +kernel, rfl, by decide +kernel, by decide +kernel⟩
def mG : MS :=
  (aH (d8 1 (mLc [3] (iR1 (aj (ak bK 2 bH (cIo 0 (aC (mC (.int 6)) aA))) aN)) (gN 3) cZ (ak kq 1 lM (cIo 0 aA))))
  (aH (d8 2 (mLc [3] (iR1 (aj (ak bK 2 bH (cIo 0 (aC (mC (.int 6)) aA))) aN)) (gN 3) cZ (ak mM 1 kK (cIo 0 aA))))
  (mZ (b8 (aj (au 1) (aj (au 2) aN))))))
theorem CZ {c : Pc} (T : Txt c) (G_zz : FnC c 1 "_law_draw" bK 2 bH) (G_zx : FnC c 3 "_law_robot" kq 1 lM) (G_zv : FnC c 3 "_law_order" mM 1 kK) : BV (c.z 3 kM (defScope jj)) (defBody jj) mG :=
  (ax (gQ (i := 1) (own := ([("k", 3)] : List (Str × Nat))) rfl rfl rfl (gE (by rfl) T.b_range (az (aR (G_zz.z (by decide)) (by rfl) (da (i := 0) rfl (by first | exact Or.inl rfl | exact Or.inr (Or.inl rfl) | exact Or.inr (Or.inr rfl)) (bc ao aZ))) bE)) (blkOk_by (N := kM) (sc := defScope jj) (own := ([("k", 3)] : List (Str × Nat))) (by decide +kernel)) (gvn 3) gh (aR (G_zx.zb (by decide)) (by rfl) (da (i := 0) rfl (by first | exact Or.inl rfl | exact Or.inr (Or.inl rfl) | exact Or.inr (Or.inr rfl)) aZ)) (hl := by rfl) (ha := by decide +kernel))
  (ax (gQ (i := 2) (own := ([("k", 3)] : List (Str × Nat))) rfl rfl rfl (gE (by rfl) T.b_range (az (aR (G_zz.z (by decide)) (by rfl) (da (i := 0) rfl (by first | exact Or.inl rfl | exact Or.inr (Or.inl rfl) | exact Or.inr (Or.inr rfl)) (bc ao aZ))) bE)) (blkOk_by (N := kM) (sc := defScope jj) (own := ([("k", 3)] : List (Str × Nat))) (by decide +kernel)) (gvn 3) gh (aR (G_zv.zb (by decide)) (by rfl) (da (i := 0) rfl (by first | exact Or.inl rfl | exact Or.inr (Or.inl rfl) | exact Or.inr (Or.inr rfl)) aZ)) (hl := by rfl) (ha := by decide +kernel))
  (aF (yc (dG (az (evv 1) (az (evv 2) bE)))))))
theorem Ci {c : Pc} {f : Addr} {fd : FuncData} (T : Txt c) (F : Fun c.K "_law_told" "_law_told" jj f fd) (hm : c.mg "_law_told" = some (.ref f)) (G_zz : FnC c 1 "_law_draw" bK 2 bH) (G_zx : FnC c 3 "_law_robot" kq 1 lM) (G_zv : FnC c 3 "_law_order" mM 1 kK) : FnC c 4 "_law_told" kM 1 mG :=
 ⟨f, fd, ["box"], cQ F Bm (CZ T G_zz G_zx G_zv), hm, F.kp, F.binds (ps := ["box"]) fun _ _ _ _ _ _ us hl => match us, hl with | [_], _ => rfl⟩
abbrev lP : Stmt := top 31
abbrev fU : List Str := ["place"]
theorem Ba : FnScope fU ["place"] (defScope lP) := ⟨rfl, rfl, rfl, by decide +kernel, rfl, by decide +kernel, by decide +kernel⟩
def fR : MS :=
  (aH (bx (aq (ae (dIs false) (af 0) (aa (mC .non))))
  (be (mC (.str "depot")))
  bC)
  (be (ae aK (aa (ae aK (aa (mBi dF (aM (aa (ae dIx (af 0) (aa (mC (.int 0))))) aY))) (aa (mC (.str ":"))))) (aa (mBi dF (aM (aa (ae dIx (af 0) (aa (mC (.int 1))))) aY))))))
theorem CF {c : Pc} (T : Txt c) : BV (c.z 0 fU (defScope lP)) (defBody lP) fR :=
  (ax (bN (aS (fun _ _ => op_isN) gq (lvv 0) (ah bM) (nomark _))
  (aF (aU aJ))
  bF)
  (aF (aU (aX (fun _ _ => bj) bf (ah (aX (fun _ _ => bj) bf (ah (cH (fun _ _ => eX) eV (by rfl) T.b_str (by decide +kernel) (bJ (ah (bq (lvv 0) (ah ao))) bV))) (ah aJ))) (ah (cH (fun _ _ => eX) eV (by rfl) T.b_str (by decide +kernel) (bJ (ah (bq (lvv 0) (ah ao))) bV)))))))
theorem DF {c : Pc} {f : Addr} {fd : FuncData} (T : Txt c) (F : Fun c.K "_law_place_word" "_law_place_word" lP f fd) (hm : c.mg "_law_place_word" = some (.ref f)) : FnC c 1 "_law_place_word" fU 1 fR :=
 ⟨f, fd, ["place"], cQ F Ba (CF T), hm, F.kp, F.binds (ps := ["place"]) fun _ _ _ _ _ _ us hl => match us, hl with | [_], _ => rfl⟩
abbrev kQ : Stmt := top 32
abbrev mv : List Str := ["k", "row", "line", "place"]
theorem Bg : FnScope mv ["k", "row"] (defScope kQ) := ⟨rfl, rfl, rfl, by decide +kernel, rfl, by decide +kernel, by decide +kernel⟩
def mq : MS :=
  (aH (bL 2 (ae aK (aa (ae aK (aa (ae aK (aa (mC (.str "robot "))) (aa (mBi dF (aM (af 0) aY))))) (aa (mC (.str " "))))) (aa (ak fU 1 fR (aC (ae dIx (af 1) (aa (mC (.int 0)))) aA)))))
  (aH (bx (bZ (aa (ae dIx (af 1) (aa (mC (.int 1))))))
  (bL 2 (ae aK (af 2) (aa (mC (.str " broken")))))
  (bL 2 (ae aK (af 2) (aa (mC (.str " runs"))))))
  (aH (bx (fb (aq (ae (dIs true) (aa (ae dIx (af 1) (aa (mC (.int 2))))) (aa (mC .non)))) (bZ (aa (ae dIx (af 1) (aa (mC (.int 3)))))))
  (bL 2 (ae aK (aa (ae aK (af 2) (aa (mC (.str " loaded "))))) (aa (mBi dF (aM (aa (ae dIx (af 1) (aa (mC (.int 2))))) aY)))))
  (bx (aq (ae (dIs true) (aa (ae dIx (af 1) (aa (mC (.int 2))))) (aa (mC .non))))
  (bL 2 (ae aK (aa (ae aK (af 2) (aa (mC (.str " empty "))))) (aa (mBi dF (aM (aa (ae dIx (af 1) (aa (mC (.int 2))))) aY)))))
  bC))
  (aH (bx (aq (ae dGt (aa (mBi bT (aM (aa (ae dIx (af 1) (aa (mC (.int 4))))) aY))) (aa (mC (.int 0)))))
  (aH (bL 2 (ae aK (af 2) (aa (mC (.str " way")))))
  (eT (eA (ae dIx (af 1) (aa (mC (.int 4))))) (gN 3)
  (bL 2 (ae aK (aa (ae aK (af 2) (aa (mC (.str " "))))) (aa (ak fU 1 fR (fo 3 aA)))))))
  bC)
  (be (au 2))))))
theorem CA {c : Pc} (T : Txt c) (G_zb : FnC c 1 "_law_place_word" fU 1 fR) : BV (c.z 1 mv (defScope kQ)) (defBody kQ) mq :=
  (ax (sva 2 (aX (fun _ _ => bj) bf (ah (aX (fun _ _ => bj) bf (ah (aX (fun _ _ => bj) bf (ah aJ) (ah (cH (fun _ _ => eX) eV (by rfl) T.b_str (by decide +kernel) (bJ (lvv 0) bV))))) (ah aJ))) (ah (aR (G_zb.z (by decide)) (by rfl) (bc (bq (lvv 1) (ah ao)) aZ)))))
  (ax (bN (dJ (ah (bq (lvv 1) (ah ao))))
  (aF (sva 2 (aX (fun _ _ => bj) bf (lvv 2) (ah aJ))))
  (aF (sva 2 (aX (fun _ _ => bj) bf (lvv 2) (ah aJ)))))
  (ax (bN ((kl (aS (fun _ _ => op_notN) iO (ah (bq (lvv 1) (ah ao))) (ah bM) (nomark _)) (jG (dJ (ah (bq (lvv 1) (ah ao))))))).tv
  (aF (sva 2 (aX (fun _ _ => bj) bf (ah (aX (fun _ _ => bj) bf (lvv 2) (ah aJ))) (ah (cH (fun _ _ => eX) eV (by rfl) T.b_str (by decide +kernel) (bJ (ah (bq (lvv 1) (ah ao))) bV))))))
  (aF (bN (aS (fun _ _ => op_notN) iO (ah (bq (lvv 1) (ah ao))) (ah bM) (nomark _))
  (aF (sva 2 (aX (fun _ _ => bj) bf (ah (aX (fun _ _ => bj) bf (lvv 2) (ah aJ))) (ah (cH (fun _ _ => eX) eV (by rfl) T.b_str (by decide +kernel) (bJ (ah (bq (lvv 1) (ah ao))) bV))))))
  bF)))
  (ax (bN (aS (fun _ _ => op_gt) dY (ah (cP (fun _ h => dy h) dC (by rfl) T.b_len (by decide +kernel) (bJ (ah (bq (lvv 1) (ah ao))) bV))) (ah ao) (nomark _))
  (ax (sva 2 (aX (fun _ _ => bj) bf (lvv 2) (ah aJ)))
  (aF (jv (kN (bq (lvv 1) (ah ao))) (gvn 3)
  (aF (sva 2 (aX (fun _ _ => bj) bf (ah (aX (fun _ _ => bj) bf (lvv 2) (ah aJ))) (ah (aR (G_zb.z (by decide)) (by rfl) (nI (i := 3) rfl (by first | exact Or.inl rfl | exact Or.inr (Or.inl rfl) | exact Or.inr (Or.inr rfl)) aZ)))))))))
  bF)
  (aF (aU (evv 2)))))))
theorem Cv {c : Pc} {f : Addr} {fd : FuncData} (T : Txt c) (F : Fun c.K "_law_robot_line" "_law_robot_line" kQ f fd) (hm : c.mg "_law_robot_line" = some (.ref f)) (G_zb : FnC c 1 "_law_place_word" fU 1 fR) : FnC c 2 "_law_robot_line" mv 2 mq :=
 ⟨f, fd, ["k", "row"], cQ F Bg (CA T G_zb), hm, F.kp, F.binds (ps := ["k", "row"]) fun _ _ _ _ _ _ us hl => match us, hl with | [_, _], _ => rfl⟩
abbrev kA : Stmt := top 33
abbrev mD : List Str := ["k", "row", "line"]
theorem A0 : FnScope mD ["k", "row"] (defScope kA) := ⟨rfl, rfl, rfl, by decide +kernel, rfl, by decide +kernel, by decide +kernel⟩
def mK : MS :=
  (aH (bL 2 (ae aK (aa (ae aK (aa (ae aK (aa (ae aK (aa (ae aK (aa (mC (.str "order "))) (aa (mBi dF (aM (af 0) aY))))) (aa (mC (.str " "))))) (aa (ae dIx (af 1) (aa (mC (.int 0))))))) (aa (mC (.str " "))))) (aa (ae dIx (af 1) (aa (mC (.int 1)))))))
  (aH (bx (bZ (aa (ae dIx (af 1) (aa (mC (.int 2))))))
  (be (ae aK (af 2) (aa (mC (.str " done")))))
  bC)
  (aH (bx (aq (ae (dIs false) (aa (ae dIx (af 1) (aa (mC (.int 3))))) (aa (mC .non))))
  (be (ae aK (af 2) (aa (mC (.str " waits")))))
  bC)
  (aH (bx (bZ (aa (ae dIx (af 1) (aa (mC (.int 4))))))
  (be (ae aK (aa (ae aK (af 2) (aa (mC (.str " loaded "))))) (aa (mBi dF (aM (aa (ae dIx (af 1) (aa (mC (.int 3))))) aY)))))
  bC)
  (be (ae aK (aa (ae aK (af 2) (aa (mC (.str " empty "))))) (aa (mBi dF (aM (aa (ae dIx (af 1) (aa (mC (.int 3))))) aY)))))))))
theorem Dm {c : Pc} (T : Txt c) : BV (c.z 0 mD (defScope kA)) (defBody kA) mK :=
  (ax (sva 2 (aX (fun _ _ => bj) bf (ah (aX (fun _ _ => bj) bf (ah (aX (fun _ _ => bj) bf (ah (aX (fun _ _ => bj) bf (ah (aX (fun _ _ => bj) bf (ah aJ) (ah (cH (fun _ _ => eX) eV (by rfl) T.b_str (by decide +kernel) (bJ (lvv 0) bV))))) (ah aJ))) (ah (bq (lvv 1) (ah ao))))) (ah aJ))) (ah (bq (lvv 1) (ah ao)))))
  (ax (bN (dJ (ah (bq (lvv 1) (ah ao))))
  (aF (aU (aX (fun _ _ => bj) bf (lvv 2) (ah aJ))))
  bF)
  (ax (bN (aS (fun _ _ => op_isN) gq (ah (bq (lvv 1) (ah ao))) (ah bM) (nomark _))
  (aF (aU (aX (fun _ _ => bj) bf (lvv 2) (ah aJ))))
  bF)
  (ax (bN (dJ (ah (bq (lvv 1) (ah ao))))
  (aF (aU (aX (fun _ _ => bj) bf (ah (aX (fun _ _ => bj) bf (lvv 2) (ah aJ))) (ah (cH (fun _ _ => eX) eV (by rfl) T.b_str (by decide +kernel) (bJ (ah (bq (lvv 1) (ah ao))) bV))))))
  bF)
  (aF (aU (aX (fun _ _ => bj) bf (ah (aX (fun _ _ => bj) bf (lvv 2) (ah aJ))) (ah (cH (fun _ _ => eX) eV (by rfl) T.b_str (by decide +kernel) (bJ (ah (bq (lvv 1) (ah ao))) bV))))))))))
theorem B9 {c : Pc} {f : Addr} {fd : FuncData} (T : Txt c) (F : Fun c.K "_law_order_line" "_law_order_line" kA f fd) (hm : c.mg "_law_order_line" = some (.ref f)) : FnC c 1 "_law_order_line" mD 2 mK :=
 ⟨f, fd, ["k", "row"], cQ F A0 (Dm T), hm, F.kp, F.binds (ps := ["k", "row"]) fun _ _ _ _ _ _ us hl => match us, hl with | [_, _], _ => rfl⟩
abbrev lh : Stmt := top 34
abbrev lI : List Str := ["rows", "lines", "k"]
theorem Bb : FnScope lI ["rows"] (defScope lh) := ⟨rfl, rfl, rfl, by decide +kernel, rfl, by decide +kernel, by decide +kernel⟩
def ku : MS :=
  (aH (d8 1 (b8 aN))
  (aH (eT (iR1 (aj (mBi bT (aM (aa (ae dIx (af 0) (aa (mC (.int 0))))) aY)) aN)) (gN 2)
  (gJ 1 (ak mv 2 mq (aC (au 2) (aC (ae dIx (aa (ae dIx (af 0) (aa (mC (.int 0))))) (af 2)) aA)))))
  (aH (eT (iR1 (aj (mBi bT (aM (aa (ae dIx (af 0) (aa (mC (.int 1))))) aY)) aN)) (gN 2)
  (gJ 1 (ak mD 2 mK (aC (au 2) (aC (ae dIx (aa (ae dIx (af 0) (aa (mC (.int 1))))) (af 2)) aA)))))
  (jS 1))))
theorem Dl {c : Pc} (T : Txt c) (G_zc : FnC c 2 "_law_robot_line" mv 2 mq) (G_zd : FnC c 1 "_law_order_line" mD 2 mK) : BV (c.z 2 lI (defScope lh)) (defBody lh) ku :=
  (ax (saf 1 (dG bE))
  (ax (jv (gE (by rfl) T.b_range (az (cP (fun _ h => dy h) dC (by rfl) T.b_len (by decide +kernel) (bJ (ah (bq (lvv 0) (ah ao))) bV)) bE)) (gvn 2)
  (aF (fZ (i := 1) rfl (by first | exact Or.inl rfl | exact Or.inr (Or.inl rfl) | exact Or.inr (Or.inr rfl)) (aR (G_zc.z (by decide)) (by rfl) (bc (evv 2) (bc (bq (ah (bq (lvv 0) (ah ao))) (lvv 2)) aZ))))))
  (ax (jv (gE (by rfl) T.b_range (az (cP (fun _ h => dy h) dC (by rfl) T.b_len (by decide +kernel) (bJ (ah (bq (lvv 0) (ah ao))) bV)) bE)) (gvn 2)
  (aF (fZ (i := 1) rfl (by first | exact Or.inl rfl | exact Or.inr (Or.inl rfl) | exact Or.inr (Or.inr rfl)) (aR (G_zd.z (by decide)) (by rfl) (bc (evv 2) (bc (bq (ah (bq (lvv 0) (ah ao))) (lvv 2)) aZ))))))
  (aF (qr (i := 1) rfl (by first | exact Or.inl rfl | exact Or.inr (Or.inl rfl) | exact Or.inr (Or.inr rfl)))))))
theorem Do {c : Pc} {f : Addr} {fd : FuncData} (T : Txt c) (F : Fun c.K "_law_lines" "_law_lines" lh f fd) (hm : c.mg "_law_lines" = some (.ref f)) (G_zc : FnC c 2 "_law_robot_line" mv 2 mq) (G_zd : FnC c 1 "_law_order_line" mD 2 mK) : FnC c 3 "_law_lines" lI 1 ku :=
 ⟨f, fd, ["rows"], cQ F Bb (Dl T G_zc G_zd), hm, F.kp, F.binds (ps := ["rows"]) fun _ _ _ _ _ _ us hl => match us, hl with | [_], _ => rfl⟩
abbrev lu : Stmt := top 9
abbrev gC : List Str := ["place", "row", "column"]
theorem AA : FnScope gC ["place"] (defScope lu) := ⟨rfl, rfl, rfl, by decide +kernel, rfl, by decide +kernel, by decide +kernel⟩
def gI : MS :=
  (aH (bx (aq (ae (dIs false) (af 0) (aa (mC .non))))
  (be (mC (.str "depot")))
  bC)
  (aH (gy (gT 2 (aT (gN 1) (aT (gN 2) dk))) (au 0))
  (be (fX [(gu (au 1)), (mC (.str ":")), (gu (au 2))]))))
theorem CK {c : Pc} (T : Txt c) : BV (c.z 0 gC (defScope lu)) (defBody lu) gI :=
  (ax (bN (aS (fun _ _ => op_isN) gq (lvv 0) (ah bM) (nomark _))
  (aF (aU aJ))
  bF)
  (ax (gO (gw (bS (gvn 1) (bS (gvn 2) fx))) (evv 0))
  (aF (aU (oH (JV.cons (qi (evv 1)) (JV.cons aJ (JV.cons (qi (evv 2)) JV.nil))))))))
theorem CN {c : Pc} {f : Addr} {fd : FuncData} (T : Txt c) (F : Fun c.K "write_place" "write_place" lu f fd) (hm : c.mg "write_place" = some (.ref f)) : FnC c 1 "write_place" gC 1 gI :=
 ⟨f, fd, ["place"], cQ F AA (CK T), hm, F.kp, F.binds (ps := ["place"]) fun _ _ _ _ _ _ us hl => match us, hl with | [_], _ => rfl⟩
abbrev j6 : Stmt := top 10
abbrev kb : List Str := ["number", "row", "place", "broken", "order", "loaded", "way", "words", "cell"]
theorem Av : FnScope kb ["number", "row"] (defScope j6) := ⟨rfl, rfl, rfl, by decide +kernel, rfl, by decide +kernel, by decide +kernel⟩
def lL : MS :=
  (aH (gy (gT 5 (aT (gN 2) (aT (gN 3) (aT (gN 4) (aT (gN 5) (aT (gN 6) dk)))))) (au 1))
  (aH (d8 7 (b8 (aj (mC (.str "robot")) (aj (mBi dF (aM (af 0) aY)) (aj (ak gC 1 gI (aC (au 2) aA)) (aj (mIf (bZ (af 3)) (mC (.str "broken")) (mC (.str "runs"))) aN))))))
  (aH (bx (aq (ae (dIs true) (af 4) (aa (mC .non))))
  (jM 7 (b8 (aj (mIf (bZ (af 5)) (mC (.str "loaded")) (mC (.str "empty"))) (aj (mBi dF (aM (af 4) aY)) aN))))
  bC)
  (aH (bx (bZ (af 6))
  (jM 7 (ae ff (aa (b8 (aj (mC (.str "way")) aN))) (aa (mLc [8] (eA (au 6)) (gN 8) cZ (ak gC 1 gI (aC (au 8) aA))))))
  bC)
  (be (d7 (mC (.str " ")) (af 7)))))))
theorem CL {c : Pc} (T : Txt c) (G_zi : FnC c 1 "write_place" gC 1 gI) : BV (c.z 1 kb (defScope j6)) (defBody j6) lL :=
  (ax (gO (gw (bS (gvn 2) (bS (gvn 3) (bS (gvn 4) (bS (gvn 5) (bS (gvn 6) fx)))))) (evv 1))
  (ax (saf 7 (dG (az aJ (az (cH (fun _ _ => eX) eV (by rfl) T.b_str (by decide +kernel) (bJ (lvv 0) bV)) (az (aR (G_zi.z (by decide)) (by rfl) (bc (evv 2) aZ)) (az (l7 (dJ (lvv 3)) aJ aJ) bE))))))
  (ax (bN (aS (fun _ _ => op_notN) iO (lvv 4) (ah bM) (nomark _))
  (aF (pz (i := 7) rfl (by first | exact Or.inr rfl | exact Or.inl ⟨rfl, Or.inl rfl⟩ | exact Or.inl ⟨rfl, Or.inr rfl⟩) (dG (az (l7 (dJ (lvv 5)) aJ aJ) (az (cH (fun _ _ => eX) eV (by rfl) T.b_str (by decide +kernel) (bJ (lvv 4) bV)) bE))).ev))
  bF)
  (ax (bN (dJ (lvv 6))
  (aF (pz (i := 7) rfl (by first | exact Or.inr rfl | exact Or.inl ⟨rfl, Or.inl rfl⟩ | exact Or.inl ⟨rfl, Or.inr rfl⟩) (oX (fun _ _ => op_cat) jF (ah (dG (az aJ bE)).ev) (ah (vR (own := ([("cell", 8)] : List (Str × Nat))) (kN (evv 6)) (blkOk_by (N := kb) (sc := defScope j6) (own := ([("cell", 8)] : List (Str × Nat))) (by decide +kernel)) (gvn 8) gh (aR (G_zi.zb (by decide)) (by rfl) (bc (evv 8) aZ))).ev)).ev))
  bF)
  (aF (aU (iK aJ (lvv 7))))))))
theorem CT {c : Pc} {f : Addr} {fd : FuncData} (T : Txt c) (F : Fun c.K "write_robot" "write_robot" j6 f fd) (hm : c.mg "write_robot" = some (.ref f)) (G_zi : FnC c 1 "write_place" gC 1 gI) : FnC c 2 "write_robot" kb 2 lL :=
 ⟨f, fd, ["number", "row"], cQ F Av (CL T G_zi), hm, F.kp, F.binds (ps := ["number", "row"]) fun _ _ _ _ _ _ us hl => match us, hl with | [_, _], _ => rfl⟩
abbrev kB : Stmt := top 11
abbrev j8 : List Str := ["number", "row", "start", "goal", "done", "robot", "loaded", "words"]
theorem Br : FnScope j8 ["number", "row"] (defScope kB) := ⟨rfl, rfl, rfl, by decide +kernel, rfl, by decide +kernel, by decide +kernel⟩
def jW : MS :=
  (aH (gy (gT 5 (aT (gN 2) (aT (gN 3) (aT (gN 4) (aT (gN 5) (aT (gN 6) dk)))))) (au 1))
  (aH (d8 7 (b8 (aj (mC (.str "order")) (aj (mBi dF (aM (af 0) aY)) (aj (au 2) (aj (au 3) aN))))))
  (aH (bx (bZ (af 4))
  (gJ 7 (mC (.str "done")))
  (bx (aq (ae (dIs false) (af 5) (aa (mC .non))))
  (gJ 7 (mC (.str "waits")))
  (jM 7 (b8 (aj (mIf (bZ (af 6)) (mC (.str "loaded")) (mC (.str "empty"))) (aj (mBi dF (aM (af 5) aY)) aN))))))
  (be (d7 (mC (.str " ")) (af 7))))))
theorem Dh {c : Pc} (T : Txt c) : BV (c.z 0 j8 (defScope kB)) (defBody kB) jW :=
  (ax (gO (gw (bS (gvn 2) (bS (gvn 3) (bS (gvn 4) (bS (gvn 5) (bS (gvn 6) fx)))))) (evv 1))
  (ax (saf 7 (dG (az aJ (az (cH (fun _ _ => eX) eV (by rfl) T.b_str (by decide +kernel) (bJ (lvv 0) bV)) (az (evv 2) (az (evv 3) bE))))))
  (ax (bN (dJ (lvv 4))
  (aF (fZ (i := 7) rfl (by first | exact Or.inl rfl | exact Or.inr (Or.inl rfl) | exact Or.inr (Or.inr rfl)) aJ))
  (aF (bN (aS (fun _ _ => op_isN) gq (lvv 5) (ah bM) (nomark _))
  (aF (fZ (i := 7) rfl (by first | exact Or.inl rfl | exact Or.inr (Or.inl rfl) | exact Or.inr (Or.inr rfl)) aJ))
  (aF (pz (i := 7) rfl (by first | exact Or.inr rfl | exact Or.inl ⟨rfl, Or.inl rfl⟩ | exact Or.inl ⟨rfl, Or.inr rfl⟩) (dG (az (l7 (dJ (lvv 6)) aJ aJ) (az (cH (fun _ _ => eX) eV (by rfl) T.b_str (by decide +kernel) (bJ (lvv 5) bV)) bE))).ev)))))
  (aF (aU (iK aJ (lvv 7)))))))
theorem Ds {c : Pc} {f : Addr} {fd : FuncData} (T : Txt c) (F : Fun c.K "write_order" "write_order" kB f fd) (hm : c.mg "write_order" = some (.ref f)) : FnC c 1 "write_order" j8 2 jW :=
 ⟨f, fd, ["number", "row"], cQ F Br (Dh T), hm, F.kp, F.binds (ps := ["number", "row"]) fun _ _ _ _ _ _ us hl => match us, hl with | [_, _], _ => rfl⟩
abbrev ji : Stmt := top 12
abbrev ik : List Str := ["robots", "orders", "lines", "number", "row"]
theorem Aj : FnScope ik ["robots", "orders"] (defScope ji) := ⟨rfl, rfl, rfl, by decide +kernel, rfl, by decide +kernel, by decide +kernel⟩
def jh : MS :=
  (aH (d8 2 (mLc [3, 4] (iEn (aj (au 0) aN)) (gT 2 (aT (gN 3) (aT (gN 4) dk))) cZ (ak kb 2 lL (aC (au 3) (aC (au 4) aA)))))
  (be (d7 (mC (.str "\n")) (aa (ae ff (af 2) (aa (mLc [3, 4] (iEn (aj (au 1) aN)) (gT 2 (aT (gN 3) (aT (gN 4) dk))) cZ (ak j8 2 jW (aC (au 3) (aC (au 4) aA))))))))))
theorem CY {c : Pc} (T : Txt c) (G_zg : FnC c 2 "write_robot" kb 2 lL) (G_zl : FnC c 1 "write_order" j8 2 jW) : BV (c.z 2 ik (defScope ji)) (defBody ji) jh :=
  (ax (gQ (i := 2) (own := ([("number", 3), ("row", 4)] : List (Str × Nat))) rfl rfl rfl (n0 (by rfl) T.b_enumerate (az (evv 0) bE)) (blkOk_by (N := ik) (sc := defScope ji) (own := ([("number", 3), ("row", 4)] : List (Str × Nat))) (by decide +kernel)) (gw (bS (gvn 3) (bS (gvn 4) fx))) gh (aR (G_zg.zb (by decide)) (by rfl) (bc (evv 3) (bc (evv 4) aZ))) (hl := by rfl) (ha := by decide +kernel))
  (aF (aU (iK aJ (ah (oX (fun _ _ => op_cat) jF (lvv 2) (ah (vR (own := ([("number", 3), ("row", 4)] : List (Str × Nat))) (n0 (by rfl) T.b_enumerate (az (evv 1) bE)) (blkOk_by (N := ik) (sc := defScope ji) (own := ([("number", 3), ("row", 4)] : List (Str × Nat))) (by decide +kernel)) (gw (bS (gvn 3) (bS (gvn 4) fx))) gh (aR (G_zl.zb (by decide)) (by rfl) (bc (evv 3) (bc (evv 4) aZ)))).ev)).ev)))))
theorem CM {c : Pc} {f : Addr} {fd : FuncData} (T : Txt c) (F : Fun c.K "write_report" "write_report" ji f fd) (hm : c.mg "write_report" = some (.ref f)) (G_zg : FnC c 2 "write_robot" kb 2 lL) (G_zl : FnC c 1 "write_order" j8 2 jW) : FnC c 3 "write_report" ik 2 jh :=
 ⟨f, fd, ["robots", "orders"], cQ F Aj (CY T G_zg G_zl), hm, F.kp, F.binds (ps := ["robots", "orders"]) fun _ _ _ _ _ _ us hl => match us, hl with | [_, _], _ => rfl⟩
abbrev jU : Stmt := top 6
abbrev cB : List Str := ["text", "sign"]
theorem AY : FnScope cB ["text"] (defScope jU) := ⟨rfl, rfl, rfl, by decide +kernel, rfl, by decide +kernel, by decide +kernel⟩
def cC : MS :=
  (aH (bx (gD (aq (iR dLe dLe (aa (mC (.int 1))) (aa (mBi bT (aM (af 0) aY))) (aa (mC (.int 6))))))
  (be (mC .non))
  bC)
  (aH (bx (bZ (aa (mGx true [1] (eA (au 0)) (gN 1) cZ (ae (dIn true) (af 1) (aa (mC (.str "0123456789")))))))
  (be (mC .non))
  bC)
  (aH (bx (fb (aq (ae (aG false) (aa (ae dIx (af 0) (aa (mC (.int 0))))) (aa (mC (.str "0"))))) (aq (ae dGt (aa (mBi bT (aM (af 0) aY))) (aa (mC (.int 1))))))
  (be (mC .non))
  bC)
  (be (mBi o5 (aM (af 0) aY))))))
theorem DE {c : Pc} (T : Txt c) {Cc Pp : Addr} (hP : a9 c.cl Pp) : BV (c.z 2 cB (defScope jU) (some (Cc, Pp))) (defBody jU) cC :=
  (ax (bN (ny (uN (fun _ _ => op_le) (fun _ _ => op_le) dY dY (ah ao) (ah (cP (fun _ h => dy h) dC (by rfl) T.b_len (by decide +kernel) (bJ (lvv 0) bV))) (ah (uL (by rfl) (by exact T.c_MOST_FIGURES)))))
  (aF (aU bM))
  bF)
  (ax (bN (dJ (ah (Ab (own := ([("sign", 1)] : List (Str × Nat))) (k := 0) rfl (by show 0 + 2 ≤ 2; decide) (by rfl) T.b_any (hi := (kN (evv 0))) (ok := (blkOk_by (N := cB) (sc := defScope jU) (own := ([("sign", 1)] : List (Str × Nat))) (by decide +kernel))) (hsc := by decide +kernel) (hg := (gvn 1)) (ht := gh) (he := (gA (fun _ h => pO h) qb (lvv 1) (ah (qC (by rfl) (by exact T.c_FIGURES))) (by rfl))) (hP := hP))))
  (aF (aU bM))
  bF)
  (ax (bN ((kl (aS (fun _ h => or_eq h) dj (ah (bq (lvv 0) (ah ao))) (ah aJ) (nomark _)) (jG (aS (fun _ _ => op_gt) dY (ah (cP (fun _ h => dy h) dC (by rfl) T.b_len (by decide +kernel) (bJ (lvv 0) bV))) (ah ao) (nomark _))))).tv
  (aF (aU bM))
  bF)
  (aF (aU (cH (fun _ _ => xJ) xx (by rfl) T.b_int (by decide +kernel) (bJ (lvv 0) bV)))))))
theorem CU {c : Pc} {f : Addr} {fd : FuncData} (T : Txt c) {Cc Pp : Addr} (hP : a9 c.cl Pp) (hco : fd.code = .ref Cc) (hTB : GxR.TabB c.base c.mg Cc Pp) (F : Fun c.K "read_number" "read_number" jU f fd) (hm : c.mg "read_number" = some (.ref f)) : FnC c 3 "read_number" cB 1 cC :=
 ⟨f, fd, ["text"], cQ (me := some (Cc, Pp)) F AY (DE T hP) (fun c1 P1 e => by cases e; exact ⟨hco, hTB, hP⟩), hm, F.kp, F.binds (ps := ["text"]) fun _ _ _ _ _ _ us hl => match us, hl with | [_], _ => rfl⟩
abbrev jP : Stmt := top 13
abbrev eZ : List Str := ["word", "parts", "part"]
theorem AU : FnScope eZ ["word"] (defScope jP) := ⟨rfl, rfl, rfl, by decide +kernel, rfl, by decide +kernel, by decide +kernel⟩
def fq : MS :=
  (aH (d8 1 (mLc [2] (eA (mM1 cO (au 0) (mC (.str ":")))) (gN 2) cZ (ak cB 1 cC (aC (au 2) aA))))
  (aH (bx (mOr (aq (ae (aG true) (aa (mBi bT (aM (af 1) aY))) (aa (mC (.int 2))))) (aq (ae (lF false) (aa (mC .non)) (af 1))))
  (be (mC .non))
  bC)
  (be (cN (aj (ae dIx (af 1) (aa (mC (.int 0)))) (aj (ae dIx (af 1) (aa (mC (.int 1)))) aN))))))
theorem Cz {c : Pc} (T : Txt c) (G_zh : FnC c 3 "read_number" cB 1 cC) : BV (c.z 3 eZ (defScope jP)) (defBody jP) fq :=
  (ax (gQ (i := 1) (own := ([("part", 2)] : List (Str × Nat))) rfl rfl rfl (kN (mJ (evv 0) aJ).ev) (blkOk_by (N := eZ) (sc := defScope jP) (own := ([("part", 2)] : List (Str × Nat))) (by decide +kernel)) (gvn 2) gh (aR (G_zh.zb (by decide)) (by rfl) (bc (evv 2) aZ)) (hl := by rfl) (ha := by decide +kernel))
  (ax (bN ((fQ (aS (fun _ h => fB h) fE (ah (cP (fun _ h => dy h) dC (by rfl) T.b_len (by decide +kernel) (bJ (lvv 1) bV))) (ah ao) (nomark _)) (iX (aS (fun _ h => tW h) uf (ah bM) (lvv 1) (by rfl))))).tv
  (aF (aU bM))
  bF)
  (aF (aU (ey (az (bq (lvv 1) (ah ao)) (az (bq (lvv 1) (ah ao)) bE)))))))
theorem Dj {c : Pc} {f : Addr} {fd : FuncData} (T : Txt c) (F : Fun c.K "read_place" "read_place" jP f fd) (hm : c.mg "read_place" = some (.ref f)) (G_zh : FnC c 3 "read_number" cB 1 cC) : FnC c 4 "read_place" eZ 1 fq :=
 ⟨f, fd, ["word"], cQ F AU (Cz T G_zh), hm, F.kp, F.binds (ps := ["word"]) fun _ _ _ _ _ _ us hl => match us, hl with | [_], _ => rfl⟩
abbrev kR : Stmt := top 14
abbrev fH : List Str := ["words", "number"]
theorem Al : FnScope fH ["words"] (defScope kR) := ⟨rfl, rfl, rfl, by decide +kernel, rfl, by decide +kernel, by decide +kernel⟩
def fm : MS :=
  (aH (bx (mOr (aq (ae (aG true) (aa (mBi bT (aM (af 0) aY))) (aa (mC (.int 2))))) (aq (ae (dIn true) (aa (ae dIx (af 0) (aa (mC (.int 0))))) (aa (cN (aj (mC (.str "loaded")) (aj (mC (.str "empty")) aN)))))))
  (be (mC .non))
  bC)
  (aH (bL 1 (ak cB 1 cC (aC (ae dIx (af 0) (aa (mC (.int 1)))) aA)))
  (be (mIf (aq (ae (dIs false) (af 1) (aa (mC .non)))) (mC .non) (cN (aj (ae (aG false) (aa (ae dIx (af 0) (aa (mC (.int 0))))) (aa (mC (.str "loaded")))) (aj (au 1) aN)))))))
theorem B7 {c : Pc} (T : Txt c) (G_zh : FnC c 3 "read_number" cB 1 cC) : BV (c.z 3 fH (defScope kR)) (defBody kR) fm :=
  (ax (bN ((fQ (aS (fun _ h => fB h) fE (ah (cP (fun _ h => dy h) dC (by rfl) T.b_len (by decide +kernel) (bJ (lvv 0) bV))) (ah ao) (nomark _)) (iX (aS (fun _ h => pO h) qb (ah (bq (lvv 0) (ah ao))) (ah (ey (az aJ (az aJ bE)))) (by rfl))))).tv
  (aF (aU bM))
  bF)
  (ax (sva 1 (aR (G_zh.z (by decide)) (by rfl) (bc (bq (lvv 0) (ah ao)) aZ)))
  (aF (aU (l7 (aS (fun _ _ => op_isN) gq (lvv 1) (ah bM) (nomark _)) bM (ey (az (gA (fun _ h => or_eq h) dj (ah (bq (lvv 0) (ah ao))) (ah aJ) (nomark _)) (az (evv 1) bE))))))))
theorem Cm {c : Pc} {f : Addr} {fd : FuncData} (T : Txt c) (F : Fun c.K "read_share" "read_share" kR f fd) (hm : c.mg "read_share" = some (.ref f)) (G_zh : FnC c 3 "read_number" cB 1 cC) : FnC c 4 "read_share" fH 1 fm :=
 ⟨f, fd, ["words"], cQ F Al (B7 T G_zh), hm, F.kp, F.binds (ps := ["words"]) fun _ _ _ _ _ _ us hl => match us, hl with | [_], _ => rfl⟩
abbrev jQ : Stmt := top 15
abbrev gx : List Str := ["words", "places", "word"]
theorem Ah : FnScope gx ["words"] (defScope jQ) := ⟨rfl, rfl, rfl, by decide +kernel, rfl, by decide +kernel, by decide +kernel⟩
def gj : MS :=
  (aH (d8 1 (mLc [2] (eA (mSl cq (af 0) (b9 (mC (.int 1))) cf)) (gN 2) cZ (ak eZ 1 fq (aC (au 2) aA))))
  (aH (bx (fb (bZ (af 0)) (mOr (aq (ae (aG true) (aa (ae dIx (af 0) (aa (mC (.int 0))))) (aa (mC (.str "way"))))) (mOr (gD (bZ (af 1))) (aq (ae (lF false) (aa (mC .non)) (af 1))))))
  (be (mC .non))
  bC)
  (be (au 1))))
theorem CP {c : Pc} (T : Txt c) (G_zn : FnC c 4 "read_place" eZ 1 fq) : BV (c.z 4 gx (defScope jQ)) (defBody jQ) gj :=
  (ax (gQ (i := 1) (own := ([("word", 2)] : List (Str × Nat))) rfl rfl rfl (kN (gk (lvv 0) (du ao) dq).ev) (blkOk_by (N := gx) (sc := defScope jQ) (own := ([("word", 2)] : List (Str × Nat))) (by decide +kernel)) (gvn 2) gh (aR (G_zn.zb (by decide)) (by rfl) (bc (evv 2) aZ)) (hl := by rfl) (ha := by decide +kernel))
  (ax (bN ((kl (dJ (lvv 0)) (jG ((fQ (aS (fun _ h => fB h) fE (ah (bq (lvv 0) (ah ao))) (ah aJ) (nomark _)) (fQ (ny (dJ (lvv 1))) (iX (aS (fun _ h => tW h) uf (ah bM) (lvv 1) (by rfl)))))).tv))).tv
  (aF (aU bM))
  bF)
  (aF (aU (evv 1)))))
theorem DC {c : Pc} {f : Addr} {fd : FuncData} (T : Txt c) (F : Fun c.K "read_way" "read_way" jQ f fd) (hm : c.mg "read_way" = some (.ref f)) (G_zn : FnC c 4 "read_place" eZ 1 fq) : FnC c 5 "read_way" gx 1 gj :=
 ⟨f, fd, ["words"], cQ F Ah (CP T G_zn), hm, F.kp, F.binds (ps := ["words"]) fun _ _ _ _ _ _ us hl => match us, hl with | [_], _ => rfl⟩
abbrev kT : Stmt := top 16
abbrev iP : List Str := ["words", "order", "loaded", "further", "share", "way"]
theorem A8 : FnScope iP ["words"] (defScope kT) := ⟨rfl, rfl, rfl, by decide +kernel, rfl, by decide +kernel, by decide +kernel⟩
def iq : MS :=
  (aH (bL 1 (mC .non))
  (aH (bL 2 (mC (.bl false)))
  (aH (bL 3 (au 0))
  (aH (bx (fb (bZ (af 0)) (aq (ae (aG true) (aa (ae dIx (af 0) (aa (mC (.int 0))))) (aa (mC (.str "way"))))))
  (aH (bL 4 (ak fH 1 fm (aC (mSl cq (af 0) cf (b9 (mC (.int 2)))) aA)))
  (aH (bx (aq (ae (dIs false) (af 4) (aa (mC .non))))
  (be (mC .non))
  bC)
  (aH (gy (gT 2 (aT (gN 2) (aT (gN 1) dk))) (au 4))
  (bL 3 (mSl cq (af 0) (b9 (mC (.int 2))) cf)))))
  bC)
  (aH (bL 5 (ak gx 1 gj (fo 3 aA)))
  (be (mIf (aq (ae (dIs false) (af 5) (aa (mC .non)))) (mC .non) (cN (aj (au 1) (aj (au 2) (aj (au 5) aN)))))))))))
theorem Df {c : Pc} (T : Txt c) (G_zm : FnC c 4 "read_share" fH 1 fm) (G_zy : FnC c 5 "read_way" gx 1 gj) : BV (c.z 5 iP (defScope kT)) (defBody kT) iq :=
  (ax (sva 1 bM)
  (ax (sva 2 fw)
  (ax (sva 3 (evv 0))
  (ax (bN ((kl (dJ (lvv 0)) (jG (aS (fun _ h => fB h) fE (ah (bq (lvv 0) (ah ao))) (ah aJ) (nomark _))))).tv
  (ax (sva 4 (aR (G_zm.z (by decide)) (by rfl) (bc (gk (lvv 0) dq (du ao)).ev aZ)))
  (ax (bN (aS (fun _ _ => op_isN) gq (lvv 4) (ah bM) (nomark _))
  (aF (aU bM))
  bF)
  (ax (gO (gw (bS (gvn 2) (bS (gvn 1) fx))) (evv 4))
  (aF (sva 3 (gk (lvv 0) (du ao) dq).ev)))))
  bF)
  (ax (sva 5 (aR (G_zy.z (by decide)) (by rfl) (nI (i := 3) rfl (by first | exact Or.inl rfl | exact Or.inr (Or.inl rfl) | exact Or.inr (Or.inr rfl)) aZ)))
  (aF (aU (l7 (aS (fun _ _ => op_isN) gq (lvv 5) (ah bM) (nomark _)) bM (ey (az (evv 1) (az (evv 2) (az (evv 5) bE))))))))))))
theorem Di {c : Pc} {f : Addr} {fd : FuncData} (T : Txt c) (F : Fun c.K "read_errand" "read_errand" kT f fd) (hm : c.mg "read_errand" = some (.ref f)) (G_zm : FnC c 4 "read_share" fH 1 fm) (G_zy : FnC c 5 "read_way" gx 1 gj) : FnC c 6 "read_errand" iP 1 iq :=
 ⟨f, fd, ["words"], cQ F A8 (Df T G_zm G_zy), hm, F.kp, F.binds (ps := ["words"]) fun _ _ _ _ _ _ us hl => match us, hl with | [_], _ => rfl⟩
abbrev kH : Stmt := top 17
abbrev eU : List Str := ["number", "words", "place", "errand", "order", "loaded", "way"]
theorem A5 : FnScope eU ["number", "words"] (defScope kH) := ⟨rfl, rfl, rfl, by decide +kernel, rfl, by decide +kernel, by decide +kernel⟩
def ee : MS :=
  (aH (bx (mOr (aq (ae dLt (aa (mBi bT (aM (af 1) aY))) (aa (mC (.int 4))))) (mOr (aq (ae (aG true) (aa (ae dIx (af 1) (aa (mC (.int 0))))) (aa (mC (.str "robot"))))) (aq (ae (aG true) (aa (ak cB 1 cC (aC (ae dIx (af 1) (aa (mC (.int 1)))) aA))) (af 0)))))
  (be (mC .non))
  bC)
  (aH (bL 2 (ak eZ 1 fq (aC (ae dIx (af 1) (aa (mC (.int 2)))) aA)))
  (aH (bL 3 (ak iP 1 iq (aC (mSl cq (af 1) (b9 (mC (.int 4))) cf) aA)))
  (aH (bx (mOr (fb (aq (ae (dIs false) (af 2) (aa (mC .non)))) (aq (ae (aG true) (aa (ae dIx (af 1) (aa (mC (.int 2))))) (aa (mC (.str "depot")))))) (mOr (aq (ae (dIn true) (aa (ae dIx (af 1) (aa (mC (.int 3))))) (aa (cN (aj (mC (.str "broken")) (aj (mC (.str "runs")) aN)))))) (aq (ae (dIs false) (af 3) (aa (mC .non))))))
  (be (mC .non))
  bC)
  (aH (gy (gT 3 (aT (gN 4) (aT (gN 5) (aT (gN 6) dk)))) (au 3))
  (be (cN (aj (au 2) (aj (ae (aG false) (aa (ae dIx (af 1) (aa (mC (.int 3))))) (aa (mC (.str "broken")))) (aj (au 4) (aj (au 5) (aj (au 6) aN))))))))))))
theorem Cr {c : Pc} (T : Txt c) (G_zh : FnC c 3 "read_number" cB 1 cC) (G_zn : FnC c 4 "read_place" eZ 1 fq) (G_zj : FnC c 6 "read_errand" iP 1 iq) : BV (c.z 6 eU (defScope kH)) (defBody kH) ee :=
  (ax (bN ((fQ (aS (fun _ _ => op_lt) dY (ah (cP (fun _ h => dy h) dC (by rfl) T.b_len (by decide +kernel) (bJ (lvv 1) bV))) (ah ao) (nomark _)) (fQ (aS (fun _ h => fB h) fE (ah (bq (lvv 1) (ah ao))) (ah aJ) (nomark _)) (iX (aS (fun _ h => fB h) fE (ah (aR (G_zh.z (by decide)) (by rfl) (bc (bq (lvv 1) (ah ao)) aZ))) (lvv 0) (nomark _)))))).tv
  (aF (aU bM))
  bF)
  (ax (sva 2 (aR (G_zn.z (by decide)) (by rfl) (bc (bq (lvv 1) (ah ao)) aZ)))
  (ax (sva 3 (aR (G_zj.z (by decide)) (by rfl) (bc (gk (lvv 1) (du ao) dq).ev aZ)))
  (ax (bN ((fQ ((kl (aS (fun _ _ => op_isN) gq (lvv 2) (ah bM) (nomark _)) (jG (aS (fun _ h => fB h) fE (ah (bq (lvv 1) (ah ao))) (ah aJ) (nomark _))))).tv (fQ (aS (fun _ h => pO h) qb (ah (bq (lvv 1) (ah ao))) (ah (ey (az aJ (az aJ bE)))) (by rfl)) (iX (aS (fun _ _ => op_isN) gq (lvv 3) (ah bM) (nomark _)))))).tv
  (aF (aU bM))
  bF)
  (ax (gO (gw (bS (gvn 4) (bS (gvn 5) (bS (gvn 6) fx)))) (evv 3))
  (aF (aU (ey (az (evv 2) (az (gA (fun _ h => or_eq h) dj (ah (bq (lvv 1) (ah ao))) (ah aJ) (nomark _)) (az (evv 4) (az (evv 5) (az (evv 6) bE)))))))))))))
theorem CC {c : Pc} {f : Addr} {fd : FuncData} (T : Txt c) (F : Fun c.K "read_robot" "read_robot" kH f fd) (hm : c.mg "read_robot" = some (.ref f)) (G_zh : FnC c 3 "read_number" cB 1 cC) (G_zn : FnC c 4 "read_place" eZ 1 fq) (G_zj : FnC c 6 "read_errand" iP 1 iq) : FnC c 7 "read_robot" eU 2 ee :=
 ⟨f, fd, ["number", "words"], cQ F A5 (Cr T G_zh G_zn G_zj), hm, F.kp, F.binds (ps := ["number", "words"]) fun _ _ _ _ _ _ us hl => match us, hl with | [_, _], _ => rfl⟩
abbrev kz : Stmt := top 19
abbrev jr : List Str := ["words", "share", "loaded", "robot"]
theorem Az : FnScope jr ["words"] (defScope kz) := ⟨rfl, rfl, rfl, by decide +kernel, rfl, by decide +kernel, by decide +kernel⟩
def iY : MS :=
  (aH (bx (aq (ae (aG false) (af 0) (aa (b8 (aj (mC (.str "done")) aN)))))
  (be (cN (aj (mC (.bl true)) (aj (mC .non) (aj (mC (.bl false)) aN)))))
  bC)
  (aH (bx (aq (ae (aG false) (af 0) (aa (b8 (aj (mC (.str "waits")) aN)))))
  (be (cN (aj (mC (.bl false)) (aj (mC .non) (aj (mC (.bl false)) aN)))))
  bC)
  (aH (bL 1 (ak fH 1 fm (fo 0 aA)))
  (aH (bx (aq (ae (dIs false) (af 1) (aa (mC .non))))
  (be (mC .non))
  bC)
  (aH (gy (gT 2 (aT (gN 2) (aT (gN 3) dk))) (au 1))
  (be (cN (aj (mC (.bl false)) (aj (au 3) (aj (au 2) aN))))))))))
theorem C6 {c : Pc} (T : Txt c) (G_zm : FnC c 4 "read_share" fH 1 fm) : BV (c.z 4 jr (defScope kz)) (defBody kz) iY :=
  (ax (bN (aS (fun _ h => or_eq h) dj (lvv 0) (ah (dG (az aJ bE)).ev) (nomark _))
  (aF (aU (ey (az fw (az bM (az fw bE))))))
  bF)
  (ax (bN (aS (fun _ h => or_eq h) dj (lvv 0) (ah (dG (az aJ bE)).ev) (nomark _))
  (aF (aU (ey (az fw (az bM (az fw bE))))))
  bF)
  (ax (sva 1 (aR (G_zm.z (by decide)) (by rfl) (nI (i := 0) rfl (by first | exact Or.inl rfl | exact Or.inr (Or.inl rfl) | exact Or.inr (Or.inr rfl)) aZ)))
  (ax (bN (aS (fun _ _ => op_isN) gq (lvv 1) (ah bM) (nomark _))
  (aF (aU bM))
  bF)
  (ax (gO (gw (bS (gvn 2) (bS (gvn 3) fx))) (evv 1))
  (aF (aU (ey (az fw (az (evv 3) (az (evv 2) bE)))))))))))
theorem C8 {c : Pc} {f : Addr} {fd : FuncData} (T : Txt c) (F : Fun c.K "read_order_state" "read_order_state" kz f fd) (hm : c.mg "read_order_state" = some (.ref f)) (G_zm : FnC c 4 "read_share" fH 1 fm) : FnC c 5 "read_order_state" jr 1 iY :=
 ⟨f, fd, ["words"], cQ F Az (C6 T G_zm), hm, F.kp, F.binds (ps := ["words"]) fun _ _ _ _ _ _ us hl => match us, hl with | [_], _ => rfl⟩
abbrev kJ : Stmt := top 18
abbrev iw : List Str := ["word"]
theorem Bl : FnScope iw ["word"] (defScope kJ) := ⟨rfl, rfl, rfl, by decide +kernel, rfl, by decide +kernel, by decide +kernel⟩
def iy : MS :=
  (be (oZ (ae (aG false) (aa (mBi bT (aM (af 0) aY))) (aa (mC (.int 1)))) (ae (dIn false) (af 0) (aa (mC (.str "ABCDEFGH"))))))
theorem Cq {c : Pc} (T : Txt c) : BV (c.z 0 iw (defScope kJ)) (defBody kJ) iy :=
  (aF (aU (yq (gA (fun _ h => or_eq h) dj (ah (cP (fun _ h => dy h) dC (by rfl) T.b_len (by decide +kernel) (bJ (lvv 0) bV))) (ah ao) (nomark _)) (zF (gA (fun _ h => AQ h) Bv (lvv 0) (ah (qC (by rfl) (by exact T.c_STATIONS))) (by rfl))))))
theorem B0 {c : Pc} {f : Addr} {fd : FuncData} (T : Txt c) (F : Fun c.K "is_letter" "is_letter" kJ f fd) (hm : c.mg "is_letter" = some (.ref f)) : FnC c 1 "is_letter" iw 1 iy :=
 ⟨f, fd, ["word"], cQ F Bl (Cq T), hm, F.kp, F.binds (ps := ["word"]) fun _ _ _ _ _ _ us hl => match us, hl with | [_], _ => rfl⟩
abbrev kU : Stmt := top 20
abbrev e9 : List Str := ["number", "words", "state", "done", "robot", "loaded"]
theorem Ar : FnScope e9 ["number", "words"] (defScope kU) := ⟨rfl, rfl, rfl, by decide +kernel, rfl, by decide +kernel, by decide +kernel⟩
def eB : MS :=
  (aH (bx (mOr (aq (ae dLt (aa (mBi bT (aM (af 1) aY))) (aa (mC (.int 4))))) (mOr (aq (ae (aG true) (aa (ae dIx (af 1) (aa (mC (.int 0))))) (aa (mC (.str "order"))))) (aq (ae (aG true) (aa (ak cB 1 cC (aC (ae dIx (af 1) (aa (mC (.int 1)))) aA))) (af 0)))))
  (be (mC .non))
  bC)
  (aH (bL 2 (ak jr 1 iY (aC (mSl cq (af 1) (b9 (mC (.int 4))) cf) aA)))
  (aH (bx (mOr (gD (bZ (aa (ak iw 1 iy (aC (ae dIx (af 1) (aa (mC (.int 2)))) aA))))) (mOr (gD (bZ (aa (ak iw 1 iy (aC (ae dIx (af 1) (aa (mC (.int 3)))) aA))))) (aq (ae (dIs false) (af 2) (aa (mC .non))))))
  (be (mC .non))
  bC)
  (aH (gy (gT 3 (aT (gN 3) (aT (gN 4) (aT (gN 5) dk)))) (au 2))
  (be (cN (aj (ae dIx (af 1) (aa (mC (.int 2)))) (aj (ae dIx (af 1) (aa (mC (.int 3)))) (aj (au 3) (aj (au 4) (aj (au 5) aN)))))))))))
theorem BO {c : Pc} (T : Txt c) (G_zh : FnC c 3 "read_number" cB 1 cC) (G_za : FnC c 5 "read_order_state" jr 1 iY) (G_zw : FnC c 1 "is_letter" iw 1 iy) : BV (c.z 5 e9 (defScope kU)) (defBody kU) eB :=
  (ax (bN ((fQ (aS (fun _ _ => op_lt) dY (ah (cP (fun _ h => dy h) dC (by rfl) T.b_len (by decide +kernel) (bJ (lvv 1) bV))) (ah ao) (nomark _)) (fQ (aS (fun _ h => fB h) fE (ah (bq (lvv 1) (ah ao))) (ah aJ) (nomark _)) (iX (aS (fun _ h => fB h) fE (ah (aR (G_zh.z (by decide)) (by rfl) (bc (bq (lvv 1) (ah ao)) aZ))) (lvv 0) (nomark _)))))).tv
  (aF (aU bM))
  bF)
  (ax (sva 2 (aR (G_za.z (by decide)) (by rfl) (bc (gk (lvv 1) (du ao) dq).ev aZ)))
  (ax (bN ((fQ (ny (dJ (ah (aR (G_zw.z (by decide)) (by rfl) (bc (bq (lvv 1) (ah ao)) aZ))))) (fQ (ny (dJ (ah (aR (G_zw.z (by decide)) (by rfl) (bc (bq (lvv 1) (ah ao)) aZ))))) (iX (aS (fun _ _ => op_isN) gq (lvv 2) (ah bM) (nomark _)))))).tv
  (aF (aU bM))
  bF)
  (ax (gO (gw (bS (gvn 3) (bS (gvn 4) (bS (gvn 5) fx)))) (evv 2))
  (aF (aU (ey (az (bq (lvv 1) (ah ao)) (az (bq (lvv 1) (ah ao)) (az (evv 3) (az (evv 4) (az (evv 5) bE))))))))))))
theorem CI {c : Pc} {f : Addr} {fd : FuncData} (T : Txt c) (F : Fun c.K "read_order_row" "read_order_row" kU f fd) (hm : c.mg "read_order_row" = some (.ref f)) (G_zh : FnC c 3 "read_number" cB 1 cC) (G_za : FnC c 5 "read_order_state" jr 1 iY) (G_zw : FnC c 1 "is_letter" iw 1 iy) : FnC c 6 "read_order_row" e9 2 eB :=
 ⟨f, fd, ["number", "words"], cQ F Ar (BO T G_zh G_za G_zw), hm, F.kp, F.binds (ps := ["number", "words"]) fun _ _ _ _ _ _ us hl => match us, hl with | [_, _], _ => rfl⟩
abbrev lH : Stmt := top 21
abbrev jl : List Str := ["text", "robots", "orders", "lines", "at", "line", "words", "robot", "order"]
theorem Bi : FnScope jl ["text"] (defScope lH) := ⟨rfl, rfl, rfl, by decide +kernel, rfl, by decide +kernel, by decide +kernel⟩
def fV : MSC :=
  (cY (eM (gNC 1) (mn (b8 aN)))
  (cY (eM (gNC 2) (mn (b8 aN)))
  (cY (eM (gNC 3) (bB (mIf (bZ (af 0)) (mM1 cO (au 0) (mC (.str "\n"))) (b8 aN))))
  (cY (l5 (pA (iEn (aj (au 3) aN))) (gTC 2 (l3 (gNC 4) (l3 (gNC 5) pT)))
  (cY (eM (gNC 6) (bB (mM1 cO (au 5) (mC (.str " ")))))
  (cY (eM (gNC 7) (cIf (mO (de 2)) (bB (mC .non)) (dB eU 2 [0, 0] ee (bD (jK (de 1)) (bD (bB (au 6)) cI)))))
  (cY (eM (gNC 8) (dB e9 2 [0, 0] eB (bD (jK (de 2)) (bD (bB (au 6)) cI))))
  (iu (gv (aq (ae (dIs true) (af 7) (aa (mC .non)))))
  (nX (de 1) (bB (au 7)))
  (iu (gv (aq (ae (dIs true) (af 8) (aa (mC .non)))))
  (nX (de 2) (bB (au 8)))
  (nC "LineError" 1 [] ["line"] jX (bD (bB (ae aK (af 4) (aa (mC (.int 1))))) cI))))))))
  (gK (sk (bD (de 1) (bD (de 2) cI))))))))
theorem Dc {c : Pc} (T : Txt c) (G_zq : FnC c 7 "read_robot" eU 2 ee) (G_ze : FnC c 6 "read_order_row" e9 2 eB) (E_LineError_1 : MkE c 1 "LineError" "LineError" 1 [] ["line"] jX) : CBV (c.z 7 jl (defScope lH)) (defBody lH) fV :=
  (cL (ei (gcn 1) (oB (dG bE)))
  (cL (ei (gcn 2) (oB (dG bE)))
  (cL (ei (gcn 3) (bX (l7 (dJ (lvv 0)) (mJ (evv 0) aJ).ev (dG bE).ev)))
  (cL (wV (xb (n0 (by rfl) T.b_enumerate (az (evv 3) bE))) (xZ (oP (gcn 4) (oP (gcn 5) uS)))
  (cL (ei (gcn 6) (bX (mJ (evv 5) aJ).ev))
  (cL (ei (gcn 7) (yX (wW (cvv 2)) (bX bM) (hV (mds := [0, 0]) (G_zq.z (by decide)) (by rfl) (cG (rh (by rfl) T.b_len (cvv 1)) (cG (bX (evv 6)) dP))).1))
  (cL (ei (gcn 8) (hV (mds := [0, 0]) (G_ze.z (by decide)) (by rfl) (cG (rh (by rfl) T.b_len (cvv 2)) (cG (bX (evv 6)) dP))).1)
  (eg (ju (jt (aS (fun _ _ => op_notN) iO (lvv 7) (ah bM) (nomark _)))
  (eg (nA (cvv 1) (bX (evv 7))))
  (eg (ju (jt (aS (fun _ _ => op_notN) iO (lvv 8) (ah bM) (nomark _)))
  (eg (nA (cvv 2) (bX (evv 8))))
  (eg (ua (E_LineError_1.z (by decide)) (by rfl) (cG (bX (aX (fun _ _ => bj) bf (lvv 4) (ah ao))) dP)))))))))))
  (eg (gM (xX (cG (cvv 1) (cG (cvv 2) dP)))))))))
theorem CD {c : Pc} {f : Addr} {fd : FuncData} (T : Txt c) (F : Fun c.K "read_report" "read_report" lH f fd) (hm : c.mg "read_report" = some (.ref f)) (G_zq : FnC c 7 "read_robot" eU 2 ee) (G_ze : FnC c 6 "read_order_row" e9 2 eB) (E_LineError_1 : MkE c 1 "LineError" "LineError" 1 [] ["line"] jX) : p6 c 8 "read_report" jl 1 fV :=
 ⟨f, fd, ["text"], xw F Bi (Dc T G_zq G_ze E_LineError_1), hm, F.kp, F.binds (ps := ["text"]) fun _ _ _ _ _ _ us hl => match us, hl with | [_], _ => rfl⟩
abbrev lz : Stmt := top 35
abbrev eP : List Str := ["text", "e"]
theorem Ak : FnScope eP ["text"] (defScope lz) := ⟨rfl, rfl, rfl, by decide +kernel, rfl, by decide +kernel, by decide +kernel⟩
def dX : MSC :=
  (cY (nG 1 d9
  (nK (nv jl 1 fV (bD (bB (au 0)) cI)))
  (AO (uOr (Cj (zj (BX fD))) (zj (rJ "bool" (Aa "LineError" "line")))) (uC (.int (-1)))
  (vW (Aa "LineError" "line"))))
  (gK (bB (mC (.int 0)))))
theorem Dk {c : Pc} (T : Txt c) (G_zk : p6 c 8 "read_report" jl 1 fV) : CBT (c.z 8 eP (defScope lz)) (defBody lz) dX :=
  (vq (T.xc_ClearfloorError.elim fun _ h => uE (i := 1) (by rfl) h.1 (by decide) (by rfl) (by rfl) h.2
  (eg (tQ (uY (G_zk.z (by decide)) (by rfl) (cG (bX (evv 0)) dP))))
  (tS ((yS (w9 (qT (x7 (by rfl) T.b_isinstance rfl (by first | exact Or.inl rfl | exact Or.inr (Or.inl rfl) | exact Or.inr (Or.inr rfl)) (yR T.xt_LineError (by rfl))))) (ye (qT (vg (by rfl) T.b_isinstance (by rfl) T.b_bool (by rfl) (qq (C0 := T.xf_LineError.choose) rfl (by first | exact Or.inl rfl | exact Or.inr (Or.inl rfl) | exact Or.inr (Or.inr rfl)) T.xf_LineError.choose_spec.1 T.xf_LineError.choose_spec.2.1 (T.xf_LineError.choose_spec.2.2))))))).tv uZ
  (xg (qq (C0 := T.xf_LineError.choose) rfl (by first | exact Or.inl rfl | exact Or.inr (Or.inl rfl) | exact Or.inr (Or.inr rfl)) T.xf_LineError.choose_spec.1 T.xf_LineError.choose_spec.2.1 (T.xf_LineError.choose_spec.2.2)))))
  (wu (ze (gM (bX ao)))))
theorem BZ {c : Pc} {f : Addr} {fd : FuncData} (T : Txt c) (F : Fun c.K "_law_fault" "_law_fault" lz f fd) (hm : c.mg "_law_fault" = some (.ref f)) (G_zk : p6 c 8 "read_report" jl 1 fV) : oz c 9 "_law_fault" eP 1 dX :=
 ⟨f, fd, ["text"], xr F Ak (Dk T G_zk), hm, F.kp, F.binds (ps := ["text"]) fun _ _ _ _ _ _ us hl => match us, hl with | [_], _ => rfl⟩
abbrev kX : Stmt := top 36
abbrev oo : List Str := ["box", "line", "kind"]
theorem Bs : FnScope oo ["box", "line"] (defScope kX) := ⟨rfl, rfl, rfl, by decide +kernel, rfl, by decide +kernel, by decide +kernel⟩
def mL : MS :=
  (aH (bL 2 (ak bK 2 bH (cIo 0 (aC (mC (.int 8)) aA))))
  (aH (bx (aq (ae (aG false) (af 2) (aa (mC (.int 0)))))
  (be (ae aK (af 1) (aa (mC (.str " ")))))
  bC)
  (aH (bx (aq (ae (aG false) (af 2) (aa (mC (.int 1)))))
  (be (ae aK (aa (mC (.str " "))) (af 1)))
  bC)
  (aH (bx (aq (ae (aG false) (af 2) (aa (mC (.int 2)))))
  (be (ae aK (af 1) (aa (mC (.str " x")))))
  bC)
  (aH (bx (aq (ae (aG false) (af 2) (aa (mC (.int 3)))))
  (be (ae aK (aa (mC (.str "Robot"))) (aa (mSl gm (af 1) (b9 (mC (.int 5))) cf))))
  bC)
  (aH (bx (aq (ae (aG false) (af 2) (aa (mC (.int 4)))))
  (be (ae aK (aa (ae aK (aa (mSl gm (af 1) cf (b9 (mC (.int 5))))) (aa (mC (.str "  "))))) (aa (mSl gm (af 1) (b9 (mC (.int 6))) cf))))
  bC)
  (aH (bx (aq (ae (aG false) (af 2) (aa (mC (.int 5)))))
  (be (ae aK (aa (ae aK (aa (mSl gm (af 1) cf (b9 (mC (.int 6))))) (aa (mC (.str "0"))))) (aa (mSl gm (af 1) (b9 (mC (.int 6))) cf))))
  bC)
  (aH (bx (aq (ae (aG false) (af 2) (aa (mC (.int 6)))))
  (be (mSl gm (af 1) cf (b9 (mC (.int 5)))))
  bC)
  (be (mC (.str "")))))))))))
theorem DB {c : Pc} (T : Txt c) (G_zz : FnC c 1 "_law_draw" bK 2 bH) : BV (c.z 1 oo (defScope kX)) (defBody kX) mL :=
  (ax (sva 2 (aR (G_zz.z (by decide)) (by rfl) (da (i := 0) rfl (by first | exact Or.inl rfl | exact Or.inr (Or.inl rfl) | exact Or.inr (Or.inr rfl)) (bc ao aZ))))
  (ax (bN (aS (fun _ h => or_eq h) dj (lvv 2) (ah ao) (nomark _))
  (aF (aU (aX (fun _ _ => bj) bf (lvv 1) (ah aJ))))
  bF)
  (ax (bN (aS (fun _ h => or_eq h) dj (lvv 2) (ah ao) (nomark _))
  (aF (aU (aX (fun _ _ => bj) bf (ah aJ) (lvv 1))))
  bF)
  (ax (bN (aS (fun _ h => or_eq h) dj (lvv 2) (ah ao) (nomark _))
  (aF (aU (aX (fun _ _ => bj) bf (lvv 1) (ah aJ))))
  bF)
  (ax (bN (aS (fun _ h => or_eq h) dj (lvv 2) (ah ao) (nomark _))
  (aF (aU (aX (fun _ _ => bj) bf (ah aJ) (ah (jI (lvv 1) (du ao) dq)))))
  bF)
  (ax (bN (aS (fun _ h => or_eq h) dj (lvv 2) (ah ao) (nomark _))
  (aF (aU (aX (fun _ _ => bj) bf (ah (aX (fun _ _ => bj) bf (ah (jI (lvv 1) dq (du ao))) (ah aJ))) (ah (jI (lvv 1) (du ao) dq)))))
  bF)
  (ax (bN (aS (fun _ h => or_eq h) dj (lvv 2) (ah ao) (nomark _))
  (aF (aU (aX (fun _ _ => bj) bf (ah (aX (fun _ _ => bj) bf (ah (jI (lvv 1) dq (du ao))) (ah aJ))) (ah (jI (lvv 1) (du ao) dq)))))
  bF)
  (ax (bN (aS (fun _ h => or_eq h) dj (lvv 2) (ah ao) (nomark _))
  (aF (aU (jI (lvv 1) dq (du ao))))
  bF)
  (aF (aU aJ))))))))))
theorem BY {c : Pc} {f : Addr} {fd : FuncData} (T : Txt c) (F : Fun c.K "_law_spoilt" "_law_spoilt" kX f fd) (hm : c.mg "_law_spoilt" = some (.ref f)) (G_zz : FnC c 1 "_law_draw" bK 2 bH) : FnC c 2 "_law_spoilt" oo 2 mL :=
 ⟨f, fd, ["box", "line"], cQ F Bs (DB T G_zz), hm, F.kp, F.binds (ps := ["box", "line"]) fun _ _ _ _ _ _ us hl => match us, hl with | [_, _], _ => rfl⟩
abbrev gr : Stmt := top 37
abbrev uD : List Str := ["script", "box", "rows", "lines", "text", "at", "spoilt"]
theorem Au : FnScope uD ["script"] (defScope gr) := ⟨rfl, rfl, rfl, by decide +kernel, rfl, by decide +kernel, by decide +kernel⟩
def sg : MSC :=
  (cY (eM (gNC 1) (mn (b8 (aj (ak kr 3 jN (aC (au 0) (aC (mC (.int 0)) (aC (mC (.int 63)) aA)))) (aj (mC (.int 0)) aN)))))
  (cY (eM (gNC 2) (dB kM 1 [2] mG (bD (de 1) cI)))
  (cY (eM (gNC 3) (bB (ak lI 1 ku (fo 2 aA))))
  (cY (eM (gNC 4) (bB (d7 (mC (.str "\n")) (af 3))))
  (cY (iu (cOr (gv (aq (ae (aG true) (aa (ak ik 2 jh (aC (ae dIx (af 2) (aa (mC (.int 0)))) (aC (ae dIx (af 2) (aa (mC (.int 1)))) aA)))) (af 4)))) (jk (gG (aG true) (f9 eP 1 dX (bD (bB (au 4)) cI)) (bB (mC (.int 0))))))
  (gK (bB (mC (.bl false))))
  jR)
  (cY (iu (gv (aq (ae (aG false) (aa (mBi bT (aM (af 3) aY))) (aa (mC (.int 0))))))
  (gK (bB (mC (.bl true))))
  jR)
  (cY (eM (gNC 5) (dB bK 2 [2, 0] bH (bD (de 1) (bD (bB (mBi bT (aM (af 3) aY))) cI))))
  (cY (eM (gNC 6) (oj (jf ff (oj (jf ff (bB (mSl cq (af 3) cf (b9 (au 5)))) (pq (bD (dB oo 2 [2, 0] mL (bD (de 1) (bD (bB (ae dIx (af 3) (af 5))) cI))) cI)))) (bB (mSl cq (af 3) (b9 (ae aK (af 5) (aa (mC (.int 1))))) cf)))))
  (cY (iu (oi (gv (aq (ae dGt (aa (mBi bT (aM (af 3) aY))) (aa (mC (.int 1)))))) (jk (gG (aG true) (f9 eP 1 dX (bD (lU [6] (bB (d7 (mC (.str "\n")) (af 6)))) cI)) (bB (ae aK (af 5) (aa (mC (.int 1))))))))
  (gK (bB (mC (.bl false))))
  jR)
  (cY (iu (jk (gG (aG true) (f9 eP 1 dX (bD (bB (d7 (mC (.str "\n")) (aa (ae ff (aa (ae ff (aa (mSl cq (af 3) cf (b9 (au 5)))) (aa (b8 (aj (ae dIx (af 3) (af 5)) aN))))) (aa (mSl cq (af 3) (b9 (au 5)) cf)))))) cI)) (bB (ae aK (af 5) (aa (mC (.int 2)))))))
  (gK (bB (mC (.bl false))))
  jR)
  (gK (gG (aG false) (f9 eP 1 dX (bD (bB (ae aK (af 4) (aa (mC (.str "\n"))))) cI)) (bB (ae aK (aa (mBi bT (aM (af 3) aY))) (aa (mC (.int 1)))))))))))))))))
theorem Cy {c : Pc} (T : Txt c) (G_zo : FnC c 2 "_law_digits" kr 3 jN) (G_z0 : FnC c 4 "_law_told" kM 1 mG) (G_zu : FnC c 3 "_law_lines" lI 1 ku) (G_zf : FnC c 3 "write_report" ik 2 jh) (G_zs : oz c 9 "_law_fault" eP 1 dX) (G_zz : FnC c 1 "_law_draw" bK 2 bH) (G_zp : FnC c 2 "_law_spoilt" oo 2 mL) : CBV (c.z 9 uD (defScope gr)) (defBody gr) sg :=
  (cL (ei (gcn 1) (oB (dG (az (aR (G_zo.z (by decide)) (by rfl) (bc (evv 0) (bc ao (bc ao aZ)))) (az ao bE)))))
  (cL (ei (gcn 2) (hV (mds := [2]) (G_z0.z (by decide)) (by rfl) (cG (cvv 1) dP)).1)
  (cL (ei (gcn 3) (bX (aR (G_zu.z (by decide)) (by rfl) (nI (i := 2) rfl (by first | exact Or.inl rfl | exact Or.inr (Or.inl rfl) | exact Or.inr (Or.inr rfl)) aZ))))
  (cL (ei (gcn 4) (bX (iK aJ (lvv 3))))
  (cL (ju ((zI (jt (aS (fun _ h => fB h) fE (ah (aR (G_zf.z (by decide)) (by rfl) (bc (bq (lvv 2) (ah ao)) (bc (bq (lvv 2) (ah ao)) aZ)))) (lvv 4) (nomark _))) (xu (nR (fun _ h => fB h) fE (j0 (G_zs.z (by decide)) (by rfl) (cG (bX (evv 4)) dP)) (bX ao) (nomark _))))).tv
  (eg (gM (bX fw)))
  l8)
  (cL (ju (jt (aS (fun _ h => or_eq h) dj (ah (cP (fun _ h => dy h) dC (by rfl) T.b_len (by decide +kernel) (bJ (lvv 3) bV))) (ah ao) (nomark _)))
  (eg (gM (bX fw)))
  l8)
  (cL (ei (gcn 5) (hV (mds := [2, 0]) (G_zz.z (by decide)) (by rfl) (cG (cvv 1) (cG (bX (cP (fun _ h => dy h) dC (by rfl) T.b_len (by decide +kernel) (bJ (lvv 3) bV))) dP))).1)
  (cL (ei (gcn 6) (qV (qN (fun _ _ => op_cat) jF (qV (qN (fun _ _ => op_cat) jF (bX (gk (lvv 3) dq (du (evv 5))).ev) (w8 (cG (hV (mds := [2, 0]) (G_zp.z (by decide)) (by rfl) (cG (cvv 1) (cG (bX (bq (lvv 3) (lvv 5))) dP))).1 dP)))) (bX (gk (lvv 3) (du (aX (fun _ _ => bj) bf (lvv 5) (ah ao))) dq).ev))))
  (cL (ju ((wy (jt (aS (fun _ _ => op_gt) dY (ah (cP (fun _ h => dy h) dC (by rfl) T.b_len (by decide +kernel) (bJ (lvv 3) bV))) (ah ao) (nomark _))) (uX (nR (fun _ h => fB h) fE (j0 (G_zs.z (by decide)) (by rfl) (cG (uK [6] (bX (iK aJ (lvv 6)))) dP)) (bX (aX (fun _ _ => bj) bf (lvv 5) (ah ao))) (nomark _))))).tv
  (eg (gM (bX fw)))
  l8)
  (cL (ju (nR (fun _ h => fB h) fE (j0 (G_zs.z (by decide)) (by rfl) (cG (bX (iK aJ (ah (oX (fun _ _ => op_cat) jF (ah (oX (fun _ _ => op_cat) jF (ah (gk (lvv 3) dq (du (evv 5))).ev) (ah (dG (az (bq (lvv 3) (lvv 5)) bE)).ev)).ev) (ah (gk (lvv 3) (du (evv 5)) dq).ev)).ev))) dP)) (bX (aX (fun _ _ => bj) bf (lvv 5) (ah ao))) (nomark _))
  (eg (gM (bX fw)))
  l8)
  (eg (gM (xn (fun _ h => or_eq h) dj (j0 (G_zs.z (by decide)) (by rfl) (cG (bX (aX (fun _ _ => bj) bf (lvv 4) (ah aJ))) dP)) (bX (aX (fun _ _ => bj) bf (ah (cP (fun _ h => dy h) dC (by rfl) T.b_len (by decide +kernel) (bJ (lvv 3) bV))) (ah ao))) (nomark _))))))))))))))
abbrev kg : Stmt := inClass (top 2) 0
abbrev oV : List Str := ["self", "line", "__class__"]
theorem oU {c : Pc} {C f cda cc : Addr} {fd : FuncData} {dvs : List V} (F : kh c.P c.K "__init__" "LineError.__init__" kg dvs C f cda cc fd) (hdv : dvs.length = 0) (hdd : ∀ I, aI c.K c.cl I [] (dvs.drop 0)) (hC : c.cl "LineError" = some C) (hm : c.mg "LineError" = some (.ref C)) (T : OexC c.K C) (iC : PySem.W.findIn c.K (.ref C) "__init__" = some (some (.ref f))) (tI : PySem.W.typeIn c.K (.ref f) = some (.type "function"))
  (hsup : c.mg "super" = none) (hf : ∀ p ∈ ([("line", 1)] : List (Str × Nat)), PySem.W.findIn c.K (.ref C) p.1 = some none) : MkE c 1 "LineError" "LineError" 1 [] ["line"] jX := by
 have h2 := kh.binds0 (ps := ["self", "line"]) (by cases dvs with | nil => exact F | cons a b => cases hdv) fun _ _ _ _ _ us hl => (match us, hl with | [_, _], _ => rfl)
 have h1 : Vals ([] : List V) [] := .nil
 have G := wM (w := c.w) (base := c.base) (cl := c.cl) (mg := c.mg) (k := 0) (n := 1) (fs := ([("line", 1)] : List (Str × Nat))) (mk := jX) (N := oV) (ps := ["self", "line"]) F (NdefX.nscope_by (by decide +kernel)) rfl rfl rfl rfl hsup rfl rfl T (by decide) hf (by decide) rfl  (oH (JV.cons aJ (JV.cons (qi (evv 1)) (JV.cons aJ JV.nil)))) (ug rfl (by first | exact Or.inl rfl | exact Or.inr (Or.inl rfl) | exact Or.inr (Or.inr rfl)) rfl (by first | exact Or.inl rfl | exact Or.inr (Or.inl rfl) | exact Or.inr (Or.inr rfl)) vi) (by intro _; rfl) (by intro _; rfl) (by intro _; rfl) (by intro _; exact ⟨_, rfl⟩) xq
 exact ⟨C, f, fd, ["self", "line"], ([("line", 1)] : List (Str × Nat)), _, _, hC, hm, T, iC, tI, G, h2, h1, (fun _ => .nil), rfl, uu⟩
end Law
namespace Law
open PySem L2 Q
def bP (d : D) : Prop := ∃ (ds : List Int) (p : Nat), d = .lst [.lst (ds.map .int), .int p]
theorem ri {b : D} {many : Int} (hb : bP b) (hm : 0 < many) : W bH [.io 0 b, .imm (.int many), .un] (ft 0 fun md d x => ∃ v : Nat, d = .int v ∧ (v : Int) < many ∧ bP x) := by
 obtain ⟨ds, p, rfl⟩ := hb
 unfold bH
 simp -implicitDefEqProofs
 by_cases h : p < ds.length
 ·rw [if_pos h]
  simp -implicitDefEqProofs [List.getElem?_eq_getElem h, mod_int hm]
  have h1 : 0 ≤ ds[p] % many := Int.emod_nonneg _ (by omega)
  have h2 : ds[p] % many < many := Int.emod_lt_of_pos _ hm
  exact ⟨(ds[p] % many).toNat, by omega, by omega, ds, p + 1, rfl⟩
 ·rw [if_neg h]
  exact ⟨0, rfl, hm, ds, p + 1, rfl⟩
theorem cw {env : En} {i : Nat} {b : D} {a : ME} {many : Int} (hb : bP b) (hr : env[i]?.bind Sl.own? = some b) (ha : a env = some (.int many, env)) (hm : 0 < many) :
  ∃ (v : Nat) (x : D), (v : Int) < many ∧ bP x ∧ ak bK 2 bH (cIo i (aC a aA)) env = some (.int v, b7 env i x) := by
 obtain ⟨md, d, x, ⟨v, rfl, h1, h2⟩, h3, _⟩ := qH (N := bK) (np := 2) (mf := bH) (a := cIo i (aC a aA)) (env := env) (e1 := env) (as := [.io i, .imm (.int many)]) (ss := [.io 0 b, .imm (.int many)]) (i := i) (j := 0)
  (by simp -implicitDefEqProofs [hr, ha]) (by simp -implicitDefEqProofs [bG]) (by simp -implicitDefEqProofs [eN]) (by simp -implicitDefEqProofs [bO]) rfl (by simp -implicitDefEqProofs [hr]) (ri hb hm)
 exact ⟨v, x, h1, h2, h3⟩
abbrev dI (ns : List Int) : List D := ns.map .int
theorem xM (ns : List Int) (k : Nat) : W kF [.imm (.scr (dI ns)), .imm (.int k)] (Rt fun md d => ∃ c : Int, d = .int c) := by
 unfold kF
 simp -implicitDefEqProofs
 by_cases h : k < ns.length
 ·simp -implicitDefEqProofs [h, List.getElem?_eq_getElem h]
 ·simp -implicitDefEqProofs [h]
theorem wA : qa (.int 10) (.int 18) = some (.int 1000000000000000000) := by
 have h : CPow 10 18 := by unfold CPow; omega
 show (if CPow 10 18 then some (D.int (10 ^ (18 : Int).toNat)) else none) = _
 rw [if_pos h]; rfl
theorem td (ns : List Int) : W jN [.imm (.scr (dI ns)), .imm (.int 0), .imm (.int 63), .un, .un, .un, .un, .un] (Rt fun md d => ∃ ds : List Int, d = .lst (dI ds)) := by
 unfold jN
 simp -implicitDefEqProofs
 obtain ⟨P, hP⟩ := inv fun k e => ∃ (ds : List Int) (s t u v : Sl), e = [.imm (.scr (dI ns)), .imm (.int 0), .imm (.int 63), .own (.lst (dI ds)), s, t, u, v] ∧ ds.length ≤ 60 * k
 refine mW (ds := ef 0 63) (e0 := _) (zu (k := 0) (n := 63) rfl (by omega) (by omega)) P (by rw [hP]; exact ⟨[], .un, .un, .un, .un, rfl, by simp -implicitDefEqProofs⟩) ?_ ?_
 ·intro k d e hd h
  rw [hP] at h
  obtain ⟨ds, s, t, u, v, rfl, hl⟩ := h
  simp -implicitDefEqProofs at hd
  obtain ⟨hk, rfl⟩ := hd
  obtain ⟨md, d, ⟨c, rfl⟩, c1, _⟩ := pR (N := mS) (np := 2) (mf := kF) (a := aC (au 0) (aC (au 4) aA)) (env := [.imm (.scr (dI ns)), .imm (.int 0), .imm (.int 63), .own (.lst (dI ds)), .imm (.int k), t, u, v]) (e1 := [.imm (.scr (dI ns)), .imm (.int 0), .imm (.int 63), .own (.lst (dI ds)), .imm (.int k), t, u, v]) (as := [.imm (.scr (dI ns)), .imm (.int k)]) (ss := [.imm (.scr (dI ns)), .imm (.int k)]) rfl rfl rfl rfl (xM ns k)
  have m1 : ∀ x, dS (.int 2) (.int x) = some (.int (2 * x)) := fun x => mul_left (by decide) (by decide)
  have m2 : ∀ x, dS (.int x) (.int 48271) = some (.int (x * 48271)) := fun x => mul_right (by decide) (by decide)
  have m3 : ∀ x, dS (.int x) (.int 69621) = some (.int (x * 69621)) := fun x => mul_right (by decide) (by decide)
  have m4 : ∀ x, dS (.int x) (.int 16807) = some (.int (x * 16807)) := fun x => mul_right (by decide) (by decide)
  have m5 : ∀ x, dS (.int 7) (.int x) = some (.int (7 * x)) := fun x => mul_left (by decide) (by decide)
  have o1 : ∀ x, gp (.int x) (.int 1000) = some (.int (x % 1000)) := fun x => mod_int (by decide)
  have o2 : ∀ x, gp (.int x) (.int 2147483647) = some (.int (x % 2147483647)) := fun x => mod_int (by decide)
  have v1 : ∀ x, jT (.int x) (.int 1000) = some (.int (x / 1000)) := fun x => qI (by decide) (by decide)
  have v2 : ∀ x, jT (.int x) (.int 997) = some (.int (x / 997)) := fun x => qI (by decide) (by decide)
  obtain ⟨P2, hP2⟩ := inv fun j e => ∃ (ds : List Int) (c : Int) (u v : Sl), e = [.imm (.scr (dI ns)), .imm (.int 0), .imm (.int 63), .own (.lst (dI ds)), .imm (.int k), .imm (.int c), u, v] ∧ ds.length ≤ 60 * k + j
  have endc : ∀ e n, n ≤ 60 → P2 n e → P (k + 1) e := fun e n hn h => by
   rw [hP2] at h
   obtain ⟨ds, c, u, v, rfl, hl⟩ := h
   rw [hP]
   exact ⟨ds, _, _, _, _, rfl, by omega⟩
  have mid : ∀ c : Int, W (bx (aq (ae dGe (af 5) (aa (ae qa (aa (mC (.int 10))) (aa (mC (.int 18)))))))
    (eT (iR1 (aj (mC (.int 60)) aN)) (gN 6)
    (bx (aq (ae dGt (af 5) (aa (mC (.int 0)))))
    (aH (gJ 3 (ae gp (aa (mBi ir (aM (af 5) aY))) (aa (mC (.int 1000)))))
    (bL 5 (ae jT (af 5) (aa (mC (.int 1000))))))
    bC))
    (aH (bL 7 (ae gp (aa (mBi ir (aM (aa (ae aK (aa (ae aK (aa (ae dS (af 5) (aa (mC (.int 48271))))) (aa (ae dS (af 4) (aa (mC (.int 69621))))))) (aa (mC (.int 11))))) aY))) (aa (mC (.int 2147483647)))))
    (eT (iR1 (aj (mC (.int 12)) aN)) (gN 6)
    (aH (bL 7 (ae gp (aa (mBi ir (aM (aa (ae aK (aa (ae aK (aa (ae dS (af 7) (aa (mC (.int 16807))))) (aa (ae dS (aa (mC (.int 7))) (af 6))))) (aa (mC (.int 1))))) aY))) (aa (mC (.int 2147483647)))))
    (gJ 3 (ae gp (aa (mBi ir (aM (aa (ae jT (af 7) (aa (mC (.int 997))))) aY))) (aa (mC (.int 1000))))))))) [.imm (.scr (dI ns)), .imm (.int 0), .imm (.int 63), .own (.lst (dI ds)), .imm (.int k), .imm (.int c), u, v] (lp (P (k + 1)) (sqK (jS 3) (Rt fun md d => ∃ ds : List Int, d = .lst (dI ds)))) := fun c => by
   simp -implicitDefEqProofs [wA]
   by_cases hc : (1000000000000000000 : Int) ≤ c
   ·rw [if_pos hc]
    refine mW (ds := ef 0 60) (e0 := _) (lE (n := 60) rfl (by omega)) P2 (by rw [hP2]; exact ⟨ds, c, u, v, rfl, by omega⟩) ?_ ?_
    ·intro j d e hd h
     rw [hP2] at h
     obtain ⟨ds, c, u, v, rfl, hl2⟩ := h
     simp -implicitDefEqProofs at hd
     obtain ⟨hj, rfl⟩ := hd
     have e3 : ds.length < sizeLine := szL (by omega)
     by_cases hc : 0 < c
     ·simp -implicitDefEqProofs [hc, e3, o1, v1]
      rw [hP2]
      exact ⟨ds ++ [c % 1000], c / 1000, _, v, by simp -implicitDefEqProofs; rfl, by simp -implicitDefEqProofs; omega⟩
     ·simp -implicitDefEqProofs [hc]
      rw [hP2]
      exact ⟨ds, c, _, v, rfl, by omega⟩
    ·intro e h
     exact endc e 60 (by omega) (by simpa using h)
   ·rw [if_neg hc]
    simp -implicitDefEqProofs [m2, m3, o2]
    obtain ⟨P3, hP3⟩ := inv fun j e => ∃ (ds : List Int) (u : Sl) (w : Int), e = [.imm (.scr (dI ns)), .imm (.int 0), .imm (.int 63), .own (.lst (dI ds)), .imm (.int k), .imm (.int c), u, .imm (.int w)] ∧ ds.length ≤ 60 * k + j
    refine mW (ds := ef 0 12) (e0 := _) (lE (n := 12) rfl (by omega)) P3 (by rw [hP3]; exact ⟨ds, u, _, rfl, by omega⟩) ?_ ?_
    ·intro j d e hd h
     rw [hP3] at h
     obtain ⟨ds, u, w, rfl, hl2⟩ := h
     simp -implicitDefEqProofs at hd
     obtain ⟨hj, rfl⟩ := hd
     have e3 : ds.length < sizeLine := szL (by omega)
     simp -implicitDefEqProofs [e3, m4, m5, o1, o2, v2]
     rw [hP3]
     exact ⟨ds ++ [_], _, _, by simp -implicitDefEqProofs; exact ⟨rfl, rfl, rfl⟩, by simp -implicitDefEqProofs; omega⟩
    ·intro e h
     rw [hP3] at h
     obtain ⟨ds, u, w, rfl, hl2⟩ := h
     simp -implicitDefEqProofs at hl2
     show P (k + 1) _
     rw [hP]
     exact ⟨ds, _, _, _, _, rfl, by omega⟩
  refine ⟨[.imm (.scr (dI ns)), .imm (.int 0), .imm (.int 63), .own (.lst (dI ds)), .imm (.int k), t, u, v], by simp -implicitDefEqProofs, ?_⟩
  rw [aE, bQ, c1, ai]
  refine ⟨by simp -implicitDefEqProofs, ?_⟩
  show W (aH _ _) [.imm (.scr (dI ns)), .imm (.int 0), .imm (.int 63), .own (.lst (dI ds)), .imm (.int k), .imm (.int c), u, v] _
  rw [aE, bI]
  have ht : aq (ae dLt (af 5) (aa (mC (.int 0)))) [.imm (.scr (dI ns)), .imm (.int 0), .imm (.int 63), .own (.lst (dI ds)), .imm (.int k), .imm (.int c), u, v] = some (decide (c < 0), [.imm (.scr (dI ns)), .imm (.int 0), .imm (.int 63), .own (.lst (dI ds)), .imm (.int k), .imm (.int c), u, v]) := by simp -implicitDefEqProofs
  rw [ht, ai]
  by_cases hc : c < 0
  ·rw [if_pos (by simpa using hc), bQ]
   have ha : ae pV (aa (mC (.int 1))) (aa (ae dS (aa (mC (.int 2))) (af 5))) [.imm (.scr (dI ns)), .imm (.int 0), .imm (.int 63), .own (.lst (dI ds)), .imm (.int k), .imm (.int c), u, v] = some (.int (1 - 2 * c), [.imm (.scr (dI ns)), .imm (.int 0), .imm (.int 63), .own (.lst (dI ds)), .imm (.int k), .imm (.int c), u, v]) := by simp -implicitDefEqProofs [m1]
   rw [ha, ai]
   exact ⟨by simp -implicitDefEqProofs, mid _⟩
  ·rw [if_neg (by simpa using hc), bA]
   exact mid _
 ·intro e h
  rw [hP] at h
  obtain ⟨ds, s, t, u, v, rfl, hl⟩ := h
  simp -implicitDefEqProofs
  exact ⟨ds, rfl⟩
end Law
namespace Q
open PySem L2 Builtin.Str
abbrev tx (l : List Nat) : Str := ⟨l.toArray⟩
abbrev cs (z : Str) : List Nat := z.cps.toList
@[simp] theorem kd (l : List Nat) : (tx l).cps.toList = l := by simp [tx]
@[simp] theorem vJ (z : Str) : tx z.cps.toList = z := by cases z; simp [tx]
@[simp] theorem dA (l : List Nat) : (tx l).length = l.length := by simp [tx, Str.length]
theorem kG (a b : List Nat) : tx a ++ tx b = tx (a ++ b) := by
 show (⟨a.toArray ++ b.toArray⟩ : Str) = _
 simp [tx]
theorem fe {a b : List Nat} : tx a = tx b ↔ a = b := by
 constructor
 ·intro h
  have : (tx a).cps.toList = (tx b).cps.toList := by rw [h]
  simpa using this
 ·rintro rfl; rfl
def gz (c : Nat) : List Nat → Nat → List Nat
 | [], _ => []
 | a :: r, k => if a = c then k :: gz c r (k + 1) else gz c r (k + 1)
theorem xH (x : Str) (c lim : Nat) : ∀ (l : List Nat) (k free : Nat) (acc : Array Nat), x.cps.toList.drop k = l → k ≤ x.length → free ≤ k → acc.size ≤ k → x.length < lim →
  (forIn (List.range' k (x.length + 1 - k)) (acc, free) (StrLaws.occBody x ⟨#[c]⟩ x.length lim)).run.fst.toList = acc.toList ++ gz c l k := by
 intro l
 induction l with
 | nil =>
  intro k free acc hd hk hf ha hl
  have hlen : x.cps.toList.length = x.length := iI x
  have : k = x.length := by
   have := congrArg List.length hd
   simp only [List.length_drop, List.length_nil] at this
   omega
  subst this
  rw [Nat.add_sub_cancel_left]
  show (forIn [x.length] (acc, free) (StrLaws.occBody x ⟨#[c]⟩ x.length lim)).run.fst.toList = _
  rw [List.forIn_cons]
  unfold StrLaws.occBody
  rw [if_neg (by
   rintro ⟨⟨_, h1⟩, _⟩
   have : (⟨#[c]⟩ : Str).length = 1 := rfl
   omega)]
  simp [gz]
 | cons a r ih =>
  intro k free acc hd hk hf ha hl
  have hlen : x.cps.toList.length = x.length := iI x
  have hk2 : k < x.length := by
   have := congrArg List.length hd
   simp only [List.length_drop, List.length_cons] at this
   omega
  have hd2 : x.cps.toList.drop (k + 1) = r := by rw [← List.drop_drop, hd]; rfl
  have hat : x.cps.toList[k]? = some a := by
   have : (x.cps.toList.drop k)[0]? = some a := by rw [hd]; rfl
   rw [List.getElem?_drop] at this
   simpa using this
  have hs := StrLaws.subAt_one x c k
  rw [hat] at hs
  have e : x.length + 1 - k = (x.length + 1 - (k + 1)) + 1 := by omega
  rw [e, List.range'_succ, List.forIn_cons]
  have hb : StrLaws.occBody x ⟨#[c]⟩ x.length lim k (acc, free) = if a = c then pure (ForInStep.yield (acc.push k, k + 1)) else pure (ForInStep.yield (acc, free)) := by
   unfold StrLaws.occBody
   by_cases hac : a = c
   ·have h := hs.mpr (by rw [hac])
    rw [if_pos ⟨⟨⟨by show acc.size < lim; omega, hf⟩, h.1⟩, h.2⟩, if_pos hac]
    rfl
   ·have h : ¬ (k + (⟨#[c]⟩ : Str).length ≤ x.length ∧ subAt x ⟨#[c]⟩ k = true) := fun z => hac (Option.some.inj (hs.mp z))
    rw [if_neg (fun z => h ⟨z.1.2, z.2⟩), if_neg hac]
  rw [hb]
  by_cases hac : a = c
  ·rw [if_pos hac]
   show (forIn (List.range' (k + 1) (x.length + 1 - (k + 1))) (acc.push k, k + 1) (StrLaws.occBody x ⟨#[c]⟩ x.length lim)).run.fst.toList = _
   rw [ih (k + 1) (k + 1) (acc.push k) hd2 (by omega) (by omega) (by simp; omega) hl]
   simp [gz, hac]
  ·rw [if_neg hac]
   show (forIn (List.range' (k + 1) (x.length + 1 - (k + 1))) (acc, free) (StrLaws.occBody x ⟨#[c]⟩ x.length lim)).run.fst.toList = _
   rw [ih (k + 1) free acc hd2 (by omega) (by omega) (by omega) hl]
   simp [gz, hac]
theorem xS (x : Str) (c : Nat) : occurrences x ⟨#[c]⟩ 0 x.length (x.length + 1) = gz c x.cps.toList 0 := by
 rw [StrLaws.occ_eq]
 have := xH x c (x.length + 1) x.cps.toList 0 0 #[] rfl (Nat.zero_le _) (Nat.le_refl _) (by simp) (by omega)
 simpa using this
def cD (c : Nat) : List Nat → List (List Nat)
 | [] => [[]]
 | a :: r => if a = c then [] :: cD c r else match cD c r with
  | h :: t => (a :: h) :: t
  | [] => [[a]]
def fF (p : List Nat) : List (List Nat) → List (List Nat)
 | h :: t => (p ++ h) :: t
 | [] => [p]
theorem i8 (c : Nat) : ∀ l, cD c l ≠ []
 | [] => by simp [cD]
 | a :: r => by
  unfold cD
  split
  ·simp
  ·split <;> simp
theorem mm {L : List (List Nat)} (h : L ≠ []) : fF [] L = L := by cases L with
 | nil => exact absurd rfl h
 | cons a r => simp [fF]
theorem qk (p q : List Nat) {L : List (List Nat)} (h : L ≠ []) : fF (p ++ q) L = fF p (fF q L) := by cases L with
 | nil => exact absurd rfl h
 | cons a r => simp [fF]
theorem oJ (x : Str) (a b : Nat) : (strSub x a b).cps.toList = (x.cps.toList.take b).drop a := by
 unfold strSub
 simp [Array.toList_extract, List.extract_eq_drop_take, List.drop_take]
theorem tF (x : Str) (c : Nat) : ∀ (l : List Nat) (a k : Nat), x.cps.toList.drop k = l → a ≤ k → k ≤ x.length →
  (StrLaws.partsFrom x 1 a (gz c l k)).map (fun z => z.cps.toList) = fF ((x.cps.toList.take k).drop a) (cD c l) := by
 intro l
 induction l with
 | nil =>
  intro a k hd ha hk
  have hlen : x.cps.toList.length = x.length := iI x
  have : k = x.length := by
   have := congrArg List.length hd
   simp only [List.length_drop, List.length_nil] at this
   omega
  subst this
  simp only [gz, StrLaws.partsFrom, List.map_cons, List.map_nil, cD, fF, oJ, List.append_nil]
 | cons b r ih =>
  intro a k hd ha hk
  have hlen : x.cps.toList.length = x.length := iI x
  have hk2 : k < x.length := by
   have := congrArg List.length hd
   simp only [List.length_drop, List.length_cons] at this
   omega
  have hd2 : x.cps.toList.drop (k + 1) = r := by rw [← List.drop_drop, hd]; rfl
  have hat : x.cps.toList[k]? = some b := by
   have : (x.cps.toList.drop k)[0]? = some b := by rw [hd]; rfl
   rw [List.getElem?_drop] at this
   simpa using this
  have htk : x.cps.toList.take (k + 1) = x.cps.toList.take k ++ [b] := by rw [List.take_add_one, hat]; rfl
  by_cases hbc : b = c
  ·have h1 := ih (k + 1) (k + 1) hd2 (Nat.le_refl _) (by omega)
   have h2 : (x.cps.toList.take (k + 1)).drop (k + 1) = [] := by rw [List.drop_eq_nil_iff]; simp; omega
   rw [h2, mm (i8 c r)] at h1
   simp only [gz, hbc, if_true, StrLaws.partsFrom, List.map_cons, cD, fF, List.append_nil, oJ]
   rw [h1]
  ·have h1 := ih a (k + 1) hd2 (by omega) (by omega)
   have h2 : (x.cps.toList.take (k + 1)).drop a = (x.cps.toList.take k).drop a ++ [b] := by
    rw [htk, List.drop_append_of_le_length (by rw [List.length_take]; omega)]
   simp only [gz, hbc, if_false]
   rw [h1, h2, qk _ _ (i8 c r)]
   congr 1
   simp only [cD, hbc, if_false]
   cases hs : cD c r with
   | nil => exact absurd hs (i8 c r)
   | cons h t => rfl
theorem yZ {L : List Str} {M : List (List Nat)} (h : L.map (fun z => z.cps.toList) = M) : L = M.map tx := by
 subst h
 rw [List.map_map]
 have : ((fun l => tx l) ∘ fun z : Str => z.cps.toList) = id := by funext z; simp
 show L = L.map ((fun l => tx l) ∘ fun z : Str => z.cps.toList)
 rw [this]; simp
theorem mz (x : Str) (c : Nat) : partsBetween x (gz c x.cps.toList 0) 1 = (cD c x.cps.toList).map tx := by
 rw [StrLaws.partsBetween_eq]
 refine yZ ?_
 have := tF x c x.cps.toList 0 0 rfl (Nat.le_refl _) (Nat.zero_le _)
 simp only [List.take_zero, List.drop_nil] at this
 rw [this, mm (i8 c _)]
theorem qG {c : Nat} : ∀ {l : List Nat} {k : Nat}, gz c l k = [] → cD c l = [l] ∧ l.filter (fun a => decide (a ≠ c)) = l
 | [], _, _ => ⟨rfl, rfl⟩
 | a :: r, k, h => by
  unfold gz at h
  split at h
  ·cases h
  ·rename_i hac
   obtain ⟨h1, h2⟩ := qG h
   refine ⟨?_, ?_⟩
   ·unfold cD
    rw [if_neg hac, h1]
   ·rw [List.filter_cons, if_pos (by simpa using hac), h2]
theorem pj (x : Str) {c : Nat} (hc : c < 256) : Txt.split x ⟨#[c]⟩ = (cD c x.cps.toList).map tx := by
 unfold Txt.split
 rw [xS]
 have l1 : (⟨#[c]⟩ : Str).length = 1 := rfl
 have k1 : Builtin.Str.strKind ⟨#[c]⟩ = 1 := by unfold Builtin.Str.strKind; simp [hc]
 have k2 : 1 ≤ Builtin.Str.strKind x := by unfold Builtin.Str.strKind; split <;> (try split) <;> omega
 have k3 : decide (Builtin.Str.strKind x < Builtin.Str.strKind ⟨#[c]⟩) = false := by rw [k1]; simp; omega
 rw [k3, Bool.or_false]
 by_cases h0 : x.length < 1
 ·have hx : x.cps.toList = [] := List.eq_nil_of_length_eq_zero (by rw [iI]; omega)
  rw [if_pos (by rw [l1]; simpa using h0), hx]
  show [x] = [tx []]
  rw [← hx, vJ]
 ·rw [if_neg (by rw [l1]; simpa using h0)]
  split
  ·rename_i he
   have := (qG (List.isEmpty_iff.mp he)).1
   rw [this]
   simp
  ·exact mz x c
def aB (c : Nat) : List (List Nat) → List Nat
 | [] => []
 | [a] => a
 | a :: b :: r => a ++ c :: aB c (b :: r)
theorem pQ {c x : Nat} (hx : ¬ x = c) {r h : List Nat} {t : List (List Nat)} (e : cD c r = h :: t) : cD c (x :: r) = (x :: h) :: t := by
 rw [cD, if_neg hx, e]
theorem oF (c : Nat) (a : List Nat) (ha : c ∉ a) (l : List Nat) : cD c (a ++ c :: l) = a :: cD c l := by
 induction a with
 | nil => simp [cD]
 | cons x a ih =>
  have hx : ¬ x = c := fun e => ha (by simp [e])
  exact pQ hx (ih fun h => ha (List.mem_cons_of_mem _ h))
theorem lD (c : Nat) (a : List Nat) (ha : c ∉ a) : cD c a = [a] := by
 induction a with
 | nil => rfl
 | cons x a ih =>
  have hx : ¬ x = c := fun e => ha (by simp [e])
  exact pQ hx (ih fun h => ha (List.mem_cons_of_mem _ h))
theorem split_join (c : Nat) : ∀ L : List (List Nat), L ≠ [] → (∀ a ∈ L, c ∉ a) → cD c (aB c L) = L
 | [], h, _ => absurd rfl h
 | [a], _, h => lD c a (h a (by simp))
 | a :: b :: r, _, h => by
  show cD c (a ++ c :: aB c (b :: r)) = _
  rw [oF c a (h a (by simp)), split_join c (b :: r) (by simp) fun x hx => h x (List.mem_cons_of_mem _ hx)]
theorem xP {c : Nat} : ∀ L : List (List Nat), Txt.join ⟨#[c]⟩ (L.map tx) = tx (aB c L) := by
 have key : ∀ L : List (List Nat), Str.join ⟨#[c]⟩ (L.map tx) = tx (aB c L) := by
  intro L
  induction L with
  | nil => rfl
  | cons a L ih =>
   cases L with
   | nil => rfl
   | cons b r =>
    show tx a ++ tx [c] ++ Str.join ⟨#[c]⟩ ((b :: r).map tx) = _
    rw [ih, kG, kG]
    show tx (a ++ [c] ++ aB c (b :: r)) = tx (a ++ c :: aB c (b :: r))
    simp
 intro L
 rw [← key]
 exact StrLaws.glued_eq_join _ _
end Q
namespace Law
open PySem L2 Q
def fg (n : Nat) : List Nat := (Nat.toDigits 10 n).map Char.toNat
theorem oa (n : Nat) : Str.ofString (toString (n : Int)) = tx (fg n) := by
 rw [← vJ (Str.ofString (toString (n : Int)))]
 congr 1
 exact PySem.W.KIN.signs_num n
theorem mX {n c : Nat} (h : c ∈ fg n) : 48 ≤ c ∧ c ≤ 57 := by
 unfold fg at h
 obtain ⟨ch, hch, e⟩ := List.mem_map.mp h
 have r := PyProof.Rows.digit_range (Nat.isDigit_of_mem_toDigits (by decide) (by decide) hch)
 rw [← e]; exact r
theorem zY : ∀ d : Nat, d < 10 → d ≠ 0 → (Nat.digitChar d).toNat ≠ 48 := by decide
theorem qu (n : Nat) : ∃ c r, fg n = c :: r ∧ (n ≠ 0 → c ≠ 48) ∧ (n < 10 → r = []) := by
 induction n using Nat.strongRecOn with
 | _ n ih =>
  by_cases h : n < 10
  ·refine ⟨(Nat.digitChar n).toNat, [], ?_, fun hn => zY n h hn, fun _ => rfl⟩
   unfold fg; rw [Nat.toDigits_of_lt_base h]; rfl
  ·have hm : n % 10 < 10 := Nat.mod_lt n (by decide)
   have t : Nat.toDigits 10 (n / 10) ++ Nat.toDigits 10 (n % 10) = Nat.toDigits 10 (10 * (n / 10) + n % 10) := Nat.toDigits_append_toDigits (by decide) (by omega) hm
   rw [Nat.div_add_mod] at t
   obtain ⟨c, r, h1, h2, _⟩ := ih (n / 10) (by omega)
   refine ⟨c, r ++ (Nat.toDigits 10 (n % 10)).map Char.toNat, ?_, fun _ => h2 (by omega), fun z => by omega⟩
   unfold fg at h1 ⊢
   rw [← t, List.map_append, h1]; rfl
theorem cV {n : Nat} (h : n < 1000000) : 1 ≤ (fg n).length ∧ (fg n).length ≤ 6 := by
 obtain ⟨c, r, h1, _⟩ := qu n
 refine ⟨by rw [h1]; simp, ?_⟩
 unfold fg
 rw [List.length_map]
 exact PyProof.Rows.digits10_le (k := 6) (by decide) (by omega)
theorem yW {n : Nat} (h : n < 1000000) : PySem.intText? (tx (fg n)) = some (n : Int) := by
 rw [← oa]
 exact PySem.W.KIN.num_reads (by omega) (by omega)
theorem zA (neg : Bool) (c : Nat) : dIn neg (.str (tx [c])) (.str "0123456789") = some (.bl (if neg then !decide (48 ≤ c ∧ c ≤ 57) else decide (48 ≤ c ∧ c ≤ 57))) := by
 have e : ("0123456789" : Str) = tx [48, 49, 50, 51, 52, 53, 54, 55, 56, 57] := rfl
 have := qX neg c (tx [48, 49, 50, 51, 52, 53, 54, 55, 56, 57])
 rw [kd] at this
 have h2 : decide (c ∈ [48, 49, 50, 51, 52, 53, 54, 55, 56, 57]) = decide (48 ≤ c ∧ c ≤ 57) := by
  rw [decide_eq_decide]
  simp
  omega
 rw [h2] at this
 rw [e, this]
theorem qL (l : List Nat) : mGx true [1] (eA (au 0)) (gN 1) cZ (ae (dIn true) (af 1) (aa (mC (.str "0123456789")))) [.imm (.str (tx l)), .un] = some (.bl (l.any fun c => !decide (48 ≤ c ∧ c ≤ 57)), [.imm (.str (tx l)), .un]) := by
 have hs : signs (tx l) = l.map fun c => .str (tx [c]) := by unfold signs; rw [kd]
 have inf := zA true
 obtain ⟨SF, hSF⟩ : ∃ S : Str, ("0123456789" : Str) = S := ⟨_, rfl⟩
 rw [hSF] at inf ⊢
 obtain ⟨e2, h1, ⟨t, rfl⟩⟩ := AH (stop := true) (vs := [1]) (mi := eA (au 0)) (gf := gN 1) (mt := cZ) (me := ae (dIn true) (af 1) (aa (mC (.str SF)))) (env := [.imm (.str (tx l)), .un]) (e0 := [.imm (.str (tx l)), .un]) (ds := signs (tx l)) (by simp -implicitDefEqProofs) rfl
  (fun i => (l[i]?.map fun c => !decide (48 ≤ c ∧ c ≤ 57)).getD false) (fun e => ∃ t, e = [.imm (.str (tx l)), t]) ⟨_, rfl⟩ (by
   rintro i d e hd ⟨t, rfl⟩
   rw [hs, List.getElem?_map] at hd
   obtain ⟨c, hc, rfl⟩ := Option.map_eq_some_iff.mp hd
   refine ⟨[.imm (.str (tx l)), .imm (.str (tx [c]))], true, [.imm (.str (tx l)), .imm (.str (tx [c]))], by simp -implicitDefEqProofs [bY], rfl, fun _ => ⟨[.imm (.str (tx l)), .imm (.str (tx [c]))], ?_, ⟨_, rfl⟩⟩, fun z => by cases z⟩
   rw [hc]
   simp -implicitDefEqProofs only [aW, aL, aP, bp, List.getElem?_cons_succ, List.getElem?_cons_zero, Option.bind_some, Option.map_some, aV, get_slot, aO, inf c, if_true, Option.getD_some])
 have hbk : cW [.imm (.str (tx l)), .un] (bY [.imm (.str (tx l)), t] [1]) [1] = [.imm (.str (tx l)), .un] := by simp -implicitDefEqProofs [cW, bY]
 rw [h1, hbk, hs, List.length_map]
 congr 2
 have : (∃ i, i < l.length ∧ (l[i]?.map fun c => !decide (48 ≤ c ∧ c ≤ 57)).getD false = true) ↔ l.any (fun c => !decide (48 ≤ c ∧ c ≤ 57)) = true := by
  rw [List.any_eq_true]
  constructor
  ·rintro ⟨i, hi, h⟩
   rw [List.getElem?_eq_getElem hi] at h
   exact ⟨l[i], List.getElem_mem hi, by simpa using h⟩
  ·rintro ⟨c, hc, h⟩
   obtain ⟨i, hi, e⟩ := List.getElem_of_mem hc
   exact ⟨i, hi, by rw [List.getElem?_eq_getElem hi, e]; simpa using h⟩
 by_cases h : l.any (fun c => !decide (48 ≤ c ∧ c ≤ 57)) = true
 ·rw [if_pos (this.mpr h), h]
 ·rw [if_neg (fun z => h (this.mp z))]
  cases hb : l.any (fun c => !decide (48 ≤ c ∧ c ≤ 57)) with
  | true => exact absurd hb h
  | false => rfl
theorem ic {n : Nat} (h : n < 1000000) : res cB cC [.imm (.str (tx (fg n)))] [] = some (.int (n : Nat), []) := by
 refine cg ?_
 unfold cC
 obtain ⟨h1, h2⟩ := cV h
 have hi := yW h
 obtain ⟨c, r, hf, hc0, hr⟩ := qu n
 have hd : ∀ x ∈ fg n, 48 ≤ x ∧ x ≤ 57 := fun x hx => mX hx
 have ha := qL (fg n)
 have hany : (fg n).any (fun c => !decide (48 ≤ c ∧ c ≤ 57)) = false := by
  rw [List.any_eq_false]
  intro x hx
  have := hd x hx
  simp [this]
 rw [hany] at ha
 have ix0 : dIx (.str (tx (fg n))) (.int 0) = some (.str (tx [c])) := by
  have hlt : 0 < (tx (fg n)).cps.toList.length := by rw [kd]; omega
  have := oO (z := tx (fg n)) (n := 0) (szS (by rw [dA]; omega)) hlt
  have e : (tx (fg n)).cps.toList[0] = c := by
   have h3 : (tx (fg n)).cps.toList[0]? = some c := by rw [kd, hf]; rfl
   rw [List.getElem?_eq_getElem hlt] at h3
   exact Option.some.inj h3
  rw [e] at this
  exact this
 have e0 : ("0" : Str) = tx [48] := rfl
 have dc : decide (tx [c] = tx [48]) = decide (c = 48) := by
  by_cases h : c = 48
  ·rw [h, rR rfl, rR rfl]
  ·rw [mx h, mx (fun z => h (by have := fe.mp z; simpa using this))]
 have zl : (fg n).length ≤ sizeLine := szS (by omega)
 have zs : (fg n).length ≤ 640 := by omega
 have T1 : gD (aq (iR dLe dLe (aa (mC (.int 1))) (aa (mBi bT (aM (af 0) aY))) (aa (mC (.int 6))))) [.imm (.str (tx (fg n))), .un] = some (false, [.imm (.str (tx (fg n))), .un]) := by
  have c1 : (1 : Int) ≤ ((fg n).length : Nat) := by omega
  have c2 : (((fg n).length : Nat) : Int) ≤ 6 := by omega
  simp -implicitDefEqProofs [zl, c1, c2]
 have T2 : bZ (aa (mGx true [1] (eA (au 0)) (gN 1) cZ (ae (dIn true) (af 1) (aa (mC (.str "0123456789")))))) [.imm (.str (tx (fg n))), .un] = some (false, [.imm (.str (tx (fg n))), .un]) := by
  simp -implicitDefEqProofs only [fL, aP, ha, Option.map_some, Option.bind_some, aO, tE]
 have T3 : fb (aq (ae (aG false) (aa (ae dIx (af 0) (aa (mC (.int 0))))) (aa (mC (.str "0"))))) (aq (ae dGt (aa (mBi bT (aM (af 0) aY))) (aa (mC (.int 1))))) [.imm (.str (tx (fg n))), .un] = some (false, [.imm (.str (tx (fg n))), .un]) := by
  rw [e0]
  by_cases hc : c = 48
  ·have hn : n = 0 := Classical.byContradiction fun z => hc0 z hc
   have hl1 : (fg n).length = 1 := by rw [hf, hr (by omega)]; rfl
   have c2 : ¬ (1 : Int) < (((fg n).length : Nat) : Int) := by omega
   simp -implicitDefEqProofs only [kZ, cu, aW, dZ, cF, cS, b0, cj, aL, aP, bp, List.getElem?_cons_zero, Option.bind_some, Option.map_some, aV, get_slot, aO, ix0, eI, dc, hc, decide_true, Bool.false_eq_true, if_false, if_true, len_str, dA, zl, fy, c2, decide_false]
  ·simp -implicitDefEqProofs only [kZ, cu, aW, aL, aP, bp, List.getElem?_cons_zero, Option.bind_some, Option.map_some, aV, get_slot, aO, ix0, eI, dc, hc, decide_false, Bool.false_eq_true, if_false]
 show W _ [.imm (.str (tx (fg n))), .un] _
 rw [aE, bI, T1, ai, if_neg (by simp), bA, ay, aE, bI, T2, ai, if_neg (by simp), bA, ay, aE, bI, T3, ai, if_neg (by simp), bA, ay, cz]
 simp -implicitDefEqProofs [hi, zs]
theorem uo : res cB cC [.imm (.str "depot")] [] = some (.non, []) := by
 refine cg ?_
 unfold cC
 have ed : ("depot" : Str) = tx [100, 101, 112, 111, 116] := rfl
 rw [ed]
 have ha := qL [100, 101, 112, 111, 116]
 have hany : [100, 101, 112, 111, 116].any (fun c => !decide (48 ≤ c ∧ c ≤ 57)) = true := by decide
 rw [hany] at ha
 have T1 : gD (aq (iR dLe dLe (aa (mC (.int 1))) (aa (mBi bT (aM (af 0) aY))) (aa (mC (.int 6))))) [.imm (.str (tx [100, 101, 112, 111, 116])), .un] = some (false, [.imm (.str (tx [100, 101, 112, 111, 116])), .un]) := by
  have zl : 5 ≤ sizeLine := szS (by omega)
  simp -implicitDefEqProofs [zl]
 have T2 : bZ (aa (mGx true [1] (eA (au 0)) (gN 1) cZ (ae (dIn true) (af 1) (aa (mC (.str "0123456789")))))) [.imm (.str (tx [100, 101, 112, 111, 116])), .un] = some (true, [.imm (.str (tx [100, 101, 112, 111, 116])), .un]) := by
  simp -implicitDefEqProofs only [fL, aP, ha, Option.map_some, Option.bind_some, aO, tE]
 show W _ [.imm (.str (tx [100, 101, 112, 111, 116])), .un] _
 rw [aE, bI, T1, ai, if_neg (by simp), bA, ay, aE, bI, T2, ai, if_pos rfl, cz, bp, ai, dD, cK, ck, ai]
 exact ⟨rfl, rfl⟩
end Law
namespace Law
open PySem L2 Q
abbrev pD (p : Nat × Nat) : D := .tup [.int (p.1 : Nat), .int (p.2 : Nat)]
def bR : Option (Nat × Nat) → D
 | none => .non
 | some p => pD p
abbrev dep : List Nat := [100, 101, 112, 111, 116]
def plW : Option (Nat × Nat) → List Nat
 | none => dep
 | some p => fg p.1 ++ 58 :: fg p.2
def Pok (p : Nat × Nat) : Prop := p.1 < 16 ∧ p.2 < 16
theorem yJ {n : Nat} (h : n < 1000000) : ((n : Int).natAbs).log2 < 1920 := by
 have e : (n : Int).natAbs = n := by omega
 rw [e]
 by_cases h0 : n = 0
 ·subst h0; decide
 ·have : n.log2 < 20 := (Nat.log2_lt h0).mpr (Nat.lt_of_lt_of_le h (by decide))
  omega
theorem v7 {a : ME} {env e : En} {n : Nat} (h : a env = some (.int (n : Nat), e)) (hn : n < 1000000) : gu a env = some (.str (tx (fg n)), e) := by
 have h1 := yJ hn
 unfold gu; rw [h]; simp only [Option.bind_some]; rw [if_pos h1, oa]
theorem gZ {n : Nat} (hn : n < 1000000) : dF [.int (n : Nat)] = some (.str (tx (fg n))) := by
 have h1 := yJ hn
 show (if ((n : Int).natAbs).log2 < 1920 then some (D.str (Str.ofString (toString (n : Int)))) else none) = _
 rw [if_pos h1, oa]
theorem xN (a : Str) : Str.empty ++ a = a := Str.empty_append a
theorem sV (p : Option (Nat × Nat)) (hp : ∀ q, p = some q → Pok q) : res gC gI [.imm (bR p)] [] = some (.str (tx (plW p)), []) := by
 refine cg ?_
 unfold gI
 have ed : ("depot" : Str) = tx dep := rfl
 have ec : (":" : Str) = tx [58] := rfl
 rw [ed, ec]
 cases p with
 | none => simp -implicitDefEqProofs [bR, plW]
 | some q =>
  obtain ⟨a, b⟩ := q
  obtain ⟨h1, h2⟩ := hp _ rfl
  have h1 : a < 16 := h1
  have h2 : b < 16 := h2
  have l1 := (cV (n := a) (by omega)).2
  have l2 := (cV (n := b) (by omega)).2
  have T : aq (ae (dIs false) (af 0) (aa (mC .non))) [.imm (pD (a, b)), .un, .un] = some (false, [.imm (pD (a, b)), .un, .un]) := rfl
  have v0 : au 0 [.imm (pD (a, b)), .un, .un] = some (pD (a, b), [.imm (pD (a, b)), .un, .un]) := rfl
  have G : gT 2 (aT (gN 1) (aT (gN 2) dk)) (pD (a, b)) [.imm (pD (a, b)), .un, .un] = some [.imm (pD (a, b)), .imm (.int (a : Nat)), .imm (.int (b : Nat))] := by simp -implicitDefEqProofs
  have f1 : gu (au 1) [.imm (pD (a, b)), .imm (.int (a : Nat)), .imm (.int (b : Nat))] = some (.str (tx (fg a)), [.imm (pD (a, b)), .imm (.int (a : Nat)), .imm (.int (b : Nat))]) := v7 rfl (by omega)
  have f2 : gu (au 2) [.imm (pD (a, b)), .imm (.int (a : Nat)), .imm (.int (b : Nat))] = some (.str (tx (fg b)), [.imm (pD (a, b)), .imm (.int (a : Nat)), .imm (.int (b : Nat))]) := v7 rfl (by omega)
  have J : fX [gu (au 1), mC (.str (tx [58])), gu (au 2)] [.imm (pD (a, b)), .imm (.int (a : Nat)), .imm (.int (b : Nat))] = some (.str (tx (fg a ++ 58 :: fg b)), [.imm (pD (a, b)), .imm (.int (a : Nat)), .imm (.int (b : Nat))]) := by
   have z1 : (tx (fg a)).length ≤ sizeLine := szS (by rw [dA]; omega)
   have z2 : (tx (fg a ++ [58])).length ≤ sizeLine := szS (by rw [dA]; simp; omega)
   have z3 : (tx (fg a ++ [58] ++ fg b)).length ≤ sizeLine := szS (by rw [dA]; simp; omega)
   unfold fX
   simp only [mJs, bp, Option.bind_some, f1, f2, xN, z1, if_true, kG, z2, z3, Option.map_some]
   simp
  show W _ [.imm (pD (a, b)), .un, .un] _
  rw [aE, bI, T, ai, if_neg (by simp), bA, ay, aE, iN, v0, ai, G, ai, ay, cz, J, ai, cK, ck, ai]
  exact ⟨rfl, rfl⟩
theorem vP {n c : Nat} (h : c < 48 ∨ 57 < c) : c ∉ fg n := fun z => by have := mX z; omega
theorem yE (a b : Int) : lF false .non (.lst [.int a, .int b]) = some (.bl false) := by
 have sh : (SeqAt.shaped PyData.none && SeqAt.shaped (.list [.int a, .int b])) = true := by
  have h1 : SeqAt.shaped PyData.none = true := rfl
  have h2 : SeqAt.shaped (.list [.int a, .int b]) = true := by
   unfold SeqAt.shaped
   simp [PyData.canLay0, PyData.canLayAll0, PyData.depth, PyData.depthAll]
  rw [h1, h2]; rfl
 show (if (SeqAt.shaped PyData.none && SeqAt.shaped (.list [.int a, .int b])) = true then some (D.bl ([PyData.int a, PyData.int b].any fun z => PyData.eqv z PyData.none)) else none) = _
 rw [if_pos sh]
 rfl
theorem m6 (p : Option (Nat × Nat)) (hp : ∀ q, p = some q → Pok q) : res eZ fq [.imm (.str (tx (plW p)))] [] = some (bR p, []) := by
 refine cg ?_
 unfold fq
 have ec : (":" : Str) = ⟨#[58]⟩ := rfl
 have sp := pj (tx (plW p)) (c := 58) (by decide)
 rw [kd] at sp
 have hl : (plW p).length ≤ 100 := by
  cases p with
  | none => decide
  | some q =>
   obtain ⟨h1, h2⟩ := hp q rfl
   have l1 := (cV (n := q.1) (by omega)).2
   have l2 := (cV (n := q.2) (by omega)).2
   unfold plW
   simp
   omega
 obtain ⟨L, hL⟩ : ∃ L, L = cD 58 (plW p) := ⟨_, rfl⟩
 rw [← hL] at sp
 have S0 : eA (mM1 cO (au 0) (mC (.str ":"))) [.imm (.str (tx (plW p))), .un, .un] = some (L.map fun l => .str (tx l), [.imm (.str (tx (plW p))), .un, .un]) := by
  have z : (plW p).length + 2 ≤ sizeLine := szS (by omega)
  have z1 : ((⟨#[58]⟩ : Str).length == 0) = false := rfl
  rw [ec]
  simp -implicitDefEqProofs [mM1, cO, z, z1, sp]
 have copy : ∀ (vs : List D), L.length = vs.length → L.length ≤ 2 → (∀ (i : Nat) (l : List Nat) (v : D), L[i]? = some l → vs[i]? = some v → res cB cC [.imm (.str (tx l))] [] = some (v, [])) → mLc [2] (eA (mM1 cO (au 0) (mC (.str ":")))) (gN 2) cZ (ak cB 1 cC (aC (au 2) aA)) [.imm (.str (tx (plW p))), .un, .un] = some (.lst vs, [.imm (.str (tx (plW p))), .un, .un]) := by
  intro vs hlen h2 hv
  obtain ⟨acc, e2, h1, ⟨t, rfl⟩, h3⟩ := l4 (vs := [2]) (mi := eA (mM1 cO (au 0) (mC (.str ":")))) (gf := gN 2) (mt := cZ) (me := ak cB 1 cC (aC (au 2) aA)) (env := [.imm (.str (tx (plW p))), .un, .un]) (e0 := [.imm (.str (tx (plW p))), .un, .un]) (ds := L.map fun l => .str (tx l)) S0 rfl
   (by rw [List.length_map]; omega) (fun e => ∃ t, e = [.imm (.str (tx (plW p))), .un, t]) (fun k acc => acc = vs.take k) ⟨_, rfl⟩ (by simp) (by
    rintro i d e acc hd ⟨t, rfl⟩ rfl
    rw [List.getElem?_map] at hd
    obtain ⟨l, hl, rfl⟩ := Option.map_eq_some_iff.mp hd
    have hi : i < vs.length := by have := (List.getElem?_eq_some_iff.mp hl).1; omega
    obtain ⟨v, hvv⟩ : ∃ v, vs[i]? = some v := ⟨_, List.getElem?_eq_getElem hi⟩
    have rr := hv i l v hl hvv
    generalize tx (plW p) = X
    refine ⟨[.imm (.str X), .un, .imm (.str (tx l))], true, [.imm (.str X), .un, .imm (.str (tx l))], by simp -implicitDefEqProofs [bY], rfl, fun _ => ⟨v, [.imm (.str X), .un, .imm (.str (tx l))], by simp -implicitDefEqProofs [cU, rr], ⟨_, rfl⟩, ?_⟩, fun z => by cases z⟩
    rw [List.take_add_one, hvv]; rfl)
  rw [List.length_map, hlen, List.take_length] at h3
  rw [h1, h3]
  generalize tx (plW p) = X
  simp -implicitDefEqProofs [cW, bY]
 rw [aE, fK]
 show Gt (mLc _ _ _ _ _ [.imm (.str (tx (plW p))), .un, .un]) _
 cases p with
 | none =>
  have hL1 : L = [dep] := by rw [hL]; exact lD 58 dep (by decide)
  have cp := copy [.non] (by rw [hL1]; rfl) (by rw [hL1]; decide) (fun i l v h1 h2 => by
   rw [hL1] at h1
   cases i with
   | zero => simp at h1 h2; rw [← h1, ← h2]; exact uo
   | succ i => simp at h1)
  rw [cp, ai]
  refine ⟨by show 1 < 3; decide, ?_⟩
  generalize tx (plW none) = X
  simp -implicitDefEqProofs [bR]
 | some q =>
  obtain ⟨a, b⟩ := q
  obtain ⟨h1, h2⟩ := hp _ rfl
  have h1 : a < 16 := h1
  have h2 : b < 16 := h2
  have hL2 : L = [fg a, fg b] := by
   rw [hL]
   show cD 58 (fg a ++ 58 :: fg b) = _
   rw [oF 58 (fg a) (vP (.inr (by decide))), lD 58 (fg b) (vP (.inr (by decide)))]
  have cp := copy [.int (a : Nat), .int (b : Nat)] (by rw [hL2]; rfl) (by rw [hL2]; exact Nat.le_refl 2) (fun i l v g1 g2 => by
   rw [hL2] at g1
   match i with
   | 0 => simp at g1 g2; rw [← g1, ← g2]; exact ic (by omega)
   | 1 => simp at g1 g2; rw [← g1, ← g2]; exact ic (by omega)
   | i + 2 => simp at g1)
  rw [cp, ai]
  refine ⟨by show 1 < 3; decide, ?_⟩
  have ni := yE (a : Nat) (b : Nat)
  generalize tx (plW (some (a, b))) = X
  simp -implicitDefEqProofs [bR, ni]
end Law
namespace Law
open PySem L2 Q
abbrev sW (ws : List (List Nat)) : List D := ws.map fun w => .str (tx w)
abbrev LD : List Nat := [108, 111, 97, 100, 101, 100]
abbrev EM : List Nat := [101, 109, 112, 116, 121]
abbrev WY : List Nat := [119, 97, 121]
def ldW (b : Bool) : List Nat := if b then LD else EM
theorem eS (xs : List D) (k : Nat) : cutD xs (some (k : Int)) none = xs.drop k := by
 have h1 : HT.sIx xs.length 0 (some (k : Int)) = min k xs.length := HT.sIx_nat _ _ _
 have h2 : HT.sIx xs.length xs.length none = xs.length := HT.sIx_none _ _
 unfold cutD
 rw [h1, h2]
 by_cases h : k ≤ xs.length
 ·rw [Nat.min_eq_left h, List.take_of_length_le (by rw [List.length_drop]; omega)]
 ·rw [Nat.min_eq_right (by omega), Nat.sub_self, List.take_zero, List.drop_eq_nil_of_le (by omega)]
theorem qZ (xs : List D) (k : Nat) : cutD xs none (some (k : Int)) = xs.take k := by
 have h1 : HT.sIx xs.length xs.length (some (k : Int)) = min k xs.length := HT.sIx_nat _ _ _
 have h2 : HT.sIx xs.length 0 none = 0 := HT.sIx_none _ _
 unfold cutD
 rw [h1, h2]
 by_cases h : k ≤ xs.length
 ·rw [Nat.min_eq_left h]; simp
 ·rw [Nat.min_eq_right (by omega), List.take_of_length_le (show xs.length ≤ k by omega)]; simp
theorem AZ (b : Bool) : dIn true (.str (tx (ldW b))) (.tup [.str (tx LD), .str (tx EM)]) = some (.bl false) := by
 cases b <;> rfl
theorem Bu (b : Bool) : decide (tx (ldW b) = tx LD) = b := by
 cases b with
 | true => exact rR rfl
 | false => exact mx (fun z => by have := fe.mp z; revert this; decide)
theorem pH (b : Bool) {o : Nat} (ho : o < 1000000) : res fH fm [.imm (.lst [.str (tx (ldW b)), .str (tx (fg o))])] [] = some (.tup [.bl b, .int (o : Nat)], []) := by
 refine cg ?_
 unfold fm
 have e1 : ("loaded" : Str) = tx LD := rfl
 have e2 : ("empty" : Str) = tx EM := rfl
 have rn := ic ho
 have il := AZ b
 have is_ := Bu b
 rw [e1, e2]
 generalize ldW b = l at *
 simp -implicitDefEqProofs [il]
 simp -implicitDefEqProofs [cU, rn, mIf]
 simpa using is_
theorem AM (ps : List (Nat × Nat)) : lF false .non (.lst (ps.map pD)) = some (.bl false) := by
 have k1 : ∀ ps : List (Nat × Nat), eO (ps.map pD) = some (ps.map fun p => PyData.tuple [.int (p.1 : Nat), .int (p.2 : Nat)]) := fun ps => by
  induction ps with
  | nil => rfl
  | cons p ps ih => simp [eO, toP, ih]
 have k2 : ∀ ps : List (Nat × Nat), PyData.canLayAll0 (ps.map fun p => PyData.tuple [.int (p.1 : Nat), .int (p.2 : Nat)]) = true ∧ PyData.depthAll (ps.map fun p => PyData.tuple [.int (p.1 : Nat), .int (p.2 : Nat)]) ≤ 3 := fun ps => by
  induction ps with
  | nil => exact ⟨rfl, by decide⟩
  | cons p ps ih =>
   obtain ⟨a, b⟩ := ih
   exact ⟨by simp [PyData.canLayAll0, PyData.canLay0, a], by simp [PyData.depthAll, PyData.depth]; omega⟩
 have k3 : ∀ ps : List (Nat × Nat), (ps.map fun p => PyData.tuple [.int (p.1 : Nat), .int (p.2 : Nat)]).any (fun z => PyData.eqv z PyData.none) = false := fun ps => by
  induction ps with
  | nil => rfl
  | cons p ps ih => simp only [List.map_cons, List.any_cons, ih, Bool.or_false]; rfl
 have sh : SeqAt.shaped (.list (ps.map fun p => PyData.tuple [.int (p.1 : Nat), .int (p.2 : Nat)])) = true := by
  unfold SeqAt.shaped
  obtain ⟨a, b⟩ := k2 ps
  simp [PyData.canLay0, PyData.depth, a]
  omega
 have sn : SeqAt.shaped PyData.none = true := rfl
 show ((toP D.non).bind fun d => (eO (ps.map pD)).bind fun ds => if (SeqAt.shaped d && SeqAt.shaped (.list ds)) = true then some (D.bl (if false then !(ds.any fun z => PyData.eqv z d) else ds.any fun z => PyData.eqv z d)) else none) = _
 rw [k1]
 show (if (SeqAt.shaped PyData.none && SeqAt.shaped (.list (ps.map fun p => PyData.tuple [.int (p.1 : Nat), .int (p.2 : Nat)]))) = true then some (D.bl ((ps.map fun p => PyData.tuple [.int (p.1 : Nat), .int (p.2 : Nat)]).any fun z => PyData.eqv z PyData.none)) else none) = _
 rw [sn, sh, if_pos (by rfl), k3]
def dO (ps : List (Nat × Nat)) : List (List Nat) := if ps.isEmpty then [] else WY :: ps.map fun p => plW (some p)
theorem zw (ps : List (Nat × Nat)) (hp : ∀ p ∈ ps, Pok p) (hl : ps.length ≤ 100) : res gx gj [.imm (.lst (sW (dO ps)))] [] = some (.lst (ps.map pD), []) := by
 refine cg ?_
 unfold gj
 have ew : ("way" : Str) = tx WY := rfl
 rw [ew]
 obtain ⟨X, hX⟩ : ∃ X, X = sW (dO ps) := ⟨_, rfl⟩
 have hd : X.drop 1 = sW (ps.map fun p => plW (some p)) := by
  rw [hX]
  unfold dO
  cases ps with
  | nil => rfl
  | cons p ps => rfl
 have cd : cq (.lst X) (some 1) none = some (.lst (sW (ps.map fun p => plW (some p)))) := by
  show some (D.lst (cutD X (some ((1 : Nat) : Int)) none)) = _
  rw [eS, hd]
 rw [← hX]
 obtain ⟨acc, e2, h1, ⟨t, rfl⟩, h3⟩ := l4 (vs := [2]) (mi := eA (mSl cq (af 0) (b9 (mC (.int 1))) cf)) (gf := gN 2) (mt := cZ) (me := ak eZ 1 fq (aC (au 2) aA)) (env := [.imm (.lst X), .un, .un]) (e0 := [.imm (.lst X), .un, .un]) (ds := sW (ps.map fun p => plW (some p))) (by simp -implicitDefEqProofs [cd]) rfl
  (by rw [List.length_map, List.length_map]; omega) (fun e => ∃ t, e = [.imm (.lst X), .un, t]) (fun k acc => acc = (ps.take k).map pD) ⟨_, rfl⟩ (by simp) (by
   rintro i d e acc hd ⟨t, rfl⟩ rfl
   rw [List.getElem?_map, List.getElem?_map] at hd
   obtain ⟨w, hw, rfl⟩ := Option.map_eq_some_iff.mp hd
   obtain ⟨p, hpi, rfl⟩ := Option.map_eq_some_iff.mp hw
   have rp := m6 (some p) (fun q e => by cases e; exact hp p (List.mem_of_getElem? hpi))
   refine ⟨[.imm (.lst X), .un, .imm (.str (tx (plW (some p))))], true, [.imm (.lst X), .un, .imm (.str (tx (plW (some p))))], by simp -implicitDefEqProofs [bY], rfl, fun _ => ⟨pD p, [.imm (.lst X), .un, .imm (.str (tx (plW (some p))))], ?_, ⟨_, rfl⟩, ?_⟩, fun z => by cases z⟩
   ·have rp : res eZ fq [.imm (.str (tx (plW (some p))))] [] = some (pD p, []) := rp
    generalize tx (plW (some p)) = Y at rp ⊢
    generalize pD p = PD at rp ⊢
    simp -implicitDefEqProofs [cU, rp]
   ·rw [List.take_add_one, hpi]; simp)
 rw [List.length_map, List.length_map, List.take_length] at h3
 have hbk : cW [.imm (.lst X), .un, .un] (bY [.imm (.lst X), .un, t] [2]) [2] = [.imm (.lst X), .un, .un] := by simp -implicitDefEqProofs [cW, bY]
 rw [hbk, h3] at h1
 have np := AM ps
 rw [aE, fK]
 show Gt (mLc _ _ _ _ _ [.imm (.lst X), .un, .un]) _
 rw [h1, ai]
 refine ⟨by show 1 < 3; decide, ?_⟩
 rw [ay]
 show W _ [.imm (.lst X), .own (.lst (ps.map pD)), .un] _
 cases ps with
 | nil =>
  have hX0 : X = [] := by rw [hX]; rfl
  subst hX0
  simp -implicitDefEqProofs [dR]
 | cons p ps =>
  have t0 : dR (.lst X) = some true := by rw [hX]; rfl
  have t1 : dR (.lst ((p :: ps).map pD)) = some true := rfl
  have ix : dIx (.lst X) (.int 0) = some (.str (tx WY)) := by
   have e : X = .str (tx WY) :: sW (ps.map (fun p => plW (some p)) |>.cons (plW (some p))) := by rw [hX]; rfl
   rw [e, Q.a8, fP]; rfl
  generalize (p :: ps).map pD = Y at *
  simp -implicitDefEqProofs [t0, t1, ix, np, -Q.a8]
structure Er where
 order : Option Nat
 loaded : Bool
 way : List (Nat × Nat)
structure Eok (e : Er) : Prop where
 o : ∀ n, e.order = some n → n < 1000000
 l : e.order = none → e.loaded = false
 w : ∀ p ∈ e.way, Pok p
 n : e.way.length ≤ 100
def orD : Option Nat → D
 | none => .non
 | some n => .int (n : Nat)
def shW (b : Bool) : Option Nat → List (List Nat)
 | none => []
 | some n => [ldW b, fg n]
def eW (e : Er) : List (List Nat) := shW e.loaded e.order ++ dO e.way
def eD (e : Er) : D := .tup [orD e.order, .bl e.loaded, .lst (e.way.map pD)]
theorem sO (b : Bool) : decide (tx (ldW b) = tx WY) = false := by
 cases b <;> exact mx (fun z => by have := fe.mp z; revert this; decide)
theorem yg (e : Er) (he : Eok e) : res iP iq [.imm (.lst (sW (eW e)))] [] = some (eD e, []) := by
 refine cg ?_
 unfold iq
 have ew : ("way" : Str) = tx WY := rfl
 rw [ew]
 obtain ⟨o, l, w⟩ := e
 have rw_ := zw w he.w he.n
 obtain ⟨X, hX⟩ : ∃ X, X = sW (eW ⟨o, l, w⟩) := ⟨_, rfl⟩
 rw [← hX]
 obtain ⟨Y, hY⟩ : ∃ Y, Y = sW (dO w) := ⟨_, rfl⟩
 obtain ⟨PW, hPW⟩ : ∃ Y, Y = w.map pD := ⟨_, rfl⟩
 rw [← hY, ← hPW] at rw_
 have tail : ∀ (od : D) (lb : Bool) (s4 : Sl), od = orD o → lb = l → W (aH (bL 5 (ak gx 1 gj (fo 3 aA)))
   (be (mIf (aq (ae (dIs false) (af 5) (aa (mC .non)))) (mC .non) (cN (aj (au 1) (aj (au 2) (aj (au 5) aN))))))) [.imm (.lst X), .imm od, .imm (.bl lb), .imm (.lst Y), s4, .un] (RtA [] fun _ d ds => d = eD ⟨o, l, w⟩ ∧ ds = []) := by
  rintro od lb s4 rfl rfl
  have A : ak gx 1 gj (fo 3 aA) [.imm (.lst X), .imm (orD o), .imm (.bl lb), .imm (.lst Y), s4, .un] = some (.lst PW, [.imm (.lst X), .imm (orD o), .imm (.bl lb), .imm (.lst Y), s4, .un]) := by
   simp -implicitDefEqProofs [cU, rw_]
  rw [aE, bQ, A, ai]
  refine ⟨by show 5 < 6; decide, ?_⟩
  rw [ay, cz]
  show Gt (mIf _ _ _ [.imm (.lst X), .imm (orD o), .imm (.bl lb), .imm (.lst Y), s4, .imm (.lst PW)]) _
  have B : mIf (aq (ae (dIs false) (af 5) (aa (mC .non)))) (mC .non) (cN (aj (au 1) (aj (au 2) (aj (au 5) aN)))) [.imm (.lst X), .imm (orD o), .imm (.bl lb), .imm (.lst Y), s4, .imm (.lst PW)] = some (.tup [orD o, .bl lb, .lst PW], [.imm (.lst X), .imm (orD o), .imm (.bl lb), .imm (.lst Y), s4, .imm (.lst PW)]) := by
   generalize orD o = od
   unfold mIf
   simp -implicitDefEqProofs
  rw [B, ai, cK, ck, ai, hPW]
  exact ⟨rfl, rfl⟩
 rw [aE, bQ, bp, ai]
 refine ⟨by show 1 < 6; decide, ?_⟩
 rw [ay, aE, bQ, bp, ai]
 refine ⟨by show 2 < 6; decide, ?_⟩
 rw [ay, aE, bQ]
 show Gt (au 0 [.imm (.lst X), .imm .non, .imm (.bl false), .un, .un, .un]) _
 have v0 : au 0 [.imm (.lst X), .imm .non, .imm (.bl false), .un, .un, .un] = some (.lst X, [.imm (.lst X), .imm .non, .imm (.bl false), .un, .un, .un]) := rfl
 rw [v0, ai]
 refine ⟨by show 3 < 6; decide, ?_⟩
 rw [ay, aE]
 show W (bx _ _ _) [.imm (.lst X), .imm .non, .imm (.bl false), .imm (.lst X), .un, .un] _
 cases o with
 | none =>
  have hl : l = false := he.l rfl
  have hXY : X = Y := by rw [hX, hY]; rfl
  have T : fb (bZ (af 0)) (aq (ae (aG true) (aa (ae dIx (af 0) (aa (mC (.int 0))))) (aa (mC (.str (tx WY)))))) [.imm (.lst X), .imm .non, .imm (.bl false), .imm (.lst X), .un, .un] = some (false, [.imm (.lst X), .imm .non, .imm (.bl false), .imm (.lst X), .un, .un]) := by
   cases w with
   | nil =>
    have hX0 : X = [] := by rw [hX]; rfl
    rw [hX0]; rfl
   | cons p w =>
    have e : X = .str (tx WY) :: sW (List.map (fun p => plW (some p)) (p :: w)) := by rw [hX]; rfl
    have t0 : dR (.lst X) = some true := by rw [e]; rfl
    have ix : dIx (.lst X) (.int 0) = some (.str (tx WY)) := by rw [e, Q.a8, fP]; rfl
    simp -implicitDefEqProofs [t0, ix, -Q.a8]
  rw [bI, T, ai, if_neg (by simp), bA, ay]
  have := tail .non false .un rfl hl.symm
  rw [← hXY] at this
  exact this
 | some n =>
  have hn := he.o n rfl
  have rs := pH l hn
  have e : X = .str (tx (ldW l)) :: .str (tx (fg n)) :: Y := by rw [hX, hY]; rfl
  have t0 : dR (.lst X) = some true := by rw [e]; rfl
  have ix : dIx (.lst X) (.int 0) = some (.str (tx (ldW l))) := by rw [e, Q.a8, fP]; rfl
  have s2 : cq (.lst X) none (some 2) = some (.lst [.str (tx (ldW l)), .str (tx (fg n))]) := by
   show some (D.lst (cutD X none (some ((2 : Nat) : Int)))) = _
   rw [qZ, e]; rfl
  have s3 : cq (.lst X) (some 2) none = some (.lst Y) := by
   show some (D.lst (cutD X (some ((2 : Nat) : Int)) none)) = _
   rw [eS, e]; rfl
  have nw := sO l
  generalize ldW l = LW at *
  have T : fb (bZ (af 0)) (aq (ae (aG true) (aa (ae dIx (af 0) (aa (mC (.int 0))))) (aa (mC (.str (tx WY)))))) [.imm (.lst X), .imm .non, .imm (.bl false), .imm (.lst X), .un, .un] = some (true, [.imm (.lst X), .imm .non, .imm (.bl false), .imm (.lst X), .un, .un]) := by
   simp -implicitDefEqProofs only [kZ, fL, cu, aW, aL, aP, bp, List.getElem?_cons_zero, Option.bind_some, Option.map_some, aV, get_slot, aO, t0, ix, eI, nw, if_true, Bool.not_false]
  have A : ak fH 1 fm (aC (mSl cq (af 0) cf (b9 (mC (.int 2)))) aA) [.imm (.lst X), .imm .non, .imm (.bl false), .imm (.lst X), .un, .un] = some (.tup [.bl l, .int (n : Nat)], [.imm (.lst X), .imm .non, .imm (.bl false), .imm (.lst X), .un, .un]) := by
   simp -implicitDefEqProofs [cU, s2, rs]
  rw [bI, T, ai, if_pos rfl, aE, bQ, A, ai]
  refine ⟨by show 4 < 6; decide, ?_⟩
  have T2 : aq (ae (dIs false) (af 4) (aa (mC .non))) [.imm (.lst X), .imm .non, .imm (.bl false), .imm (.lst X), .imm (.tup [.bl l, .int (n : Nat)]), .un] = some (false, [.imm (.lst X), .imm .non, .imm (.bl false), .imm (.lst X), .imm (.tup [.bl l, .int (n : Nat)]), .un]) := rfl
  rw [ay, aE, bI]
  show Gt (aq _ [.imm (.lst X), .imm .non, .imm (.bl false), .imm (.lst X), .imm (.tup [.bl l, .int (n : Nat)]), .un]) _
  rw [T2, ai, if_neg (by simp), bA, ay, aE, iN]
  have v4 : au 4 [.imm (.lst X), .imm .non, .imm (.bl false), .imm (.lst X), .imm (.tup [.bl l, .int (n : Nat)]), .un] = some (.tup [.bl l, .int (n : Nat)], [.imm (.lst X), .imm .non, .imm (.bl false), .imm (.lst X), .imm (.tup [.bl l, .int (n : Nat)]), .un]) := rfl
  have G : gT 2 (aT (gN 2) (aT (gN 1) dk)) (.tup [.bl l, .int (n : Nat)]) [.imm (.lst X), .imm .non, .imm (.bl false), .imm (.lst X), .imm (.tup [.bl l, .int (n : Nat)]), .un] = some [.imm (.lst X), .imm (.int (n : Nat)), .imm (.bl l), .imm (.lst X), .imm (.tup [.bl l, .int (n : Nat)]), .un] := by simp -implicitDefEqProofs
  rw [v4, ai, G, ai, ay, bQ]
  have S : mSl cq (af 0) (b9 (mC (.int 2))) cf [.imm (.lst X), .imm (.int (n : Nat)), .imm (.bl l), .imm (.lst X), .imm (.tup [.bl l, .int (n : Nat)]), .un] = some (.lst Y, [.imm (.lst X), .imm (.int (n : Nat)), .imm (.bl l), .imm (.lst X), .imm (.tup [.bl l, .int (n : Nat)]), .un]) := by
   simp -implicitDefEqProofs [s3]
  rw [S, ai]
  refine ⟨by show 3 < 6; decide, ?_⟩
  rw [ay]
  exact tail (.int (n : Nat)) l _ rfl rfl
end Law
namespace Law
open PySem L2 Q
abbrev RB : List Nat := [114, 111, 98, 111, 116]
abbrev OR : List Nat := [111, 114, 100, 101, 114]
abbrev BR : List Nat := [98, 114, 111, 107, 101, 110]
abbrev RU : List Nat := [114, 117, 110, 115]
abbrev DN : List Nat := [100, 111, 110, 101]
abbrev WT : List Nat := [119, 97, 105, 116, 115]
def brW (b : Bool) : List Nat := if b then BR else RU
structure Rob where
 place : Option (Nat × Nat)
 broken : Bool
 er : Er
structure Rok (r : Rob) : Prop where
 p : ∀ q, r.place = some q → Pok q
 e : Eok r.er
def dh (n : Nat) (r : Rob) : List (List Nat) := [RB, fg n, plW r.place, brW r.broken] ++ eW r.er
def di (r : Rob) : D := .tup [bR r.place, .bl r.broken, orD r.er.order, .bl r.er.loaded, .lst (r.er.way.map pD)]
theorem wa (b : Bool) : dIn true (.str (tx (brW b))) (.tup [.str (tx BR), .str (tx RU)]) = some (.bl false) := by cases b <;> rfl
theorem Ap (b : Bool) : decide (tx (brW b) = tx BR) = b := by
 cases b with
 | true => exact rR rfl
 | false => exact mx (fun z => by have := fe.mp z; revert this; decide)
theorem uB (n : Nat) (r : Rob) (hn : n < 1000000) (hr : Rok r) : res eU ee [.imm (.int (n : Nat)), .imm (.lst (sW (dh n r)))] [] = some (di r, []) := by
 refine cg ?_
 unfold ee
 have e1 : ("robot" : Str) = tx RB := rfl
 have e2 : ("depot" : Str) = tx dep := rfl
 have e3 : ("broken" : Str) = tx BR := rfl
 have e4 : ("runs" : Str) = tx RU := rfl
 rw [e1, e2, e3, e4]
 obtain ⟨X, hX⟩ : ∃ X, X = sW (dh n r) := ⟨_, rfl⟩
 obtain ⟨Y, hY⟩ : ∃ Y, Y = sW (eW r.er) := ⟨_, rfl⟩
 have e : X = .str (tx RB) :: .str (tx (fg n)) :: .str (tx (plW r.place)) :: .str (tx (brW r.broken)) :: Y := by rw [hX, hY]; rfl
 have x0 : dIx (.lst X) (.int 0) = some (.str (tx RB)) := by rw [e, Q.a8, fP]; rfl
 have x1 : dIx (.lst X) (.int 1) = some (.str (tx (fg n))) := by rw [e, Q.a8, oY]; rfl
 have x2 : dIx (.lst X) (.int 2) = some (.str (tx (plW r.place))) := by rw [e, Q.a8, o4]; rfl
 have x3 : dIx (.lst X) (.int 3) = some (.str (tx (brW r.broken))) := by
  rw [e, Q.a8]
  have := fj (.str (tx RB) :: .str (tx (fg n)) :: .str (tx (plW r.place)) :: .str (tx (brW r.broken)) :: Y) 3
  exact this
 have s4 : cq (.lst X) (some 4) none = some (.lst Y) := by
  show some (D.lst (cutD X (some ((4 : Nat) : Int)) none)) = _
  rw [eS, e]; rfl
 have hl : ¬ ((X.length : Nat) : Int) < 4 := by rw [e]; simp only [List.length_cons]; omega
 have rn := ic hn
 have rp := m6 r.place hr.p
 have re := yg r.er hr.e
 have ib := wa r.broken
 have isb := Ap r.broken
 rw [← hX]
 rw [← hY] at re
 have hpd : fb (aq (ae (dIs false) (af 2) (aa (mC .non)))) (aq (ae (aG true) (aa (ae dIx (af 1) (aa (mC (.int 2))))) (aa (mC (.str (tx dep)))))) [.imm (.int (n : Nat)), .imm (.lst X), .imm (bR r.place), .imm (eD r.er), .un, .un, .un] = some (false, [.imm (.int (n : Nat)), .imm (.lst X), .imm (bR r.place), .imm (eD r.er), .un, .un, .un]) := by
  cases hp : r.place with
  | none =>
   rw [hp] at x2
   have x2 : dIx (.lst X) (.int 2) = some (.str (tx dep)) := x2
   simp -implicitDefEqProofs [bR, x2, -Q.a8]
  | some q =>
   have hq : (bR (some q)).isNon = false := rfl
   generalize bR (some q) = PD at hq
   simp -implicitDefEqProofs [hq]
 unfold di
 unfold eD at re hpd
 obtain ⟨ED, hED⟩ : ∃ ED, ED = D.tup [orD r.er.order, .bl r.er.loaded, .lst (r.er.way.map pD)] := ⟨_, rfl⟩
 generalize orD r.er.order = OD at *
 generalize r.er.way.map pD = WD at *
 generalize r.er.loaded = ll at *
 rw [← hED] at re hpd
 generalize plW r.place = PW at *
 generalize bR r.place = PD at *
 generalize brW r.broken = BW at *
 generalize r.broken = bb at *
 have T1 : mOr (aq (ae dLt (aa (mBi bT (aM (af 1) aY))) (aa (mC (.int 4))))) (mOr (aq (ae (aG true) (aa (ae dIx (af 1) (aa (mC (.int 0))))) (aa (mC (.str (tx RB)))))) (aq (ae (aG true) (aa (ak cB 1 cC (aC (ae dIx (af 1) (aa (mC (.int 1)))) aA))) (af 0)))) [.imm (.int (n : Nat)), .imm (.lst X), .un, .un, .un, .un, .un] = some (false, [.imm (.int (n : Nat)), .imm (.lst X), .un, .un, .un, .un, .un]) := by
  simp -implicitDefEqProofs [hl, x0, x1, cU, rn, -Q.a8]
 have A2 : ak eZ 1 fq (aC (ae dIx (af 1) (aa (mC (.int 2)))) aA) [.imm (.int (n : Nat)), .imm (.lst X), .un, .un, .un, .un, .un] = some (PD, [.imm (.int (n : Nat)), .imm (.lst X), .un, .un, .un, .un, .un]) := by
  simp -implicitDefEqProofs [cU, x2, rp, -Q.a8]
 have A3 : ak iP 1 iq (aC (mSl cq (af 1) (b9 (mC (.int 4))) cf) aA) [.imm (.int (n : Nat)), .imm (.lst X), .imm PD, .un, .un, .un, .un] = some (ED, [.imm (.int (n : Nat)), .imm (.lst X), .imm PD, .un, .un, .un, .un]) := by
  simp -implicitDefEqProofs [cU, s4, re]
 have hne : ED.isNon = false := by rw [hED]; rfl
 rw [aE, bI]
 show Gt (mOr _ _ [.imm (.int (n : Nat)), .imm (.lst X), .un, .un, .un, .un, .un]) _
 rw [T1, ai, if_neg (by simp), bA, ay, aE, bQ, A2, ai]
 refine ⟨by show 2 < 7; decide, ?_⟩
 rw [ay, aE, bQ]
 show Gt (ak _ _ _ _ [.imm (.int (n : Nat)), .imm (.lst X), .imm PD, .un, .un, .un, .un]) _
 rw [A3, ai]
 refine ⟨by show 3 < 7; decide, ?_⟩
 rw [ay, aE, bI]
 show Gt (mOr _ _ [.imm (.int (n : Nat)), .imm (.lst X), .imm PD, .imm ED, .un, .un, .un]) _
 have T4 : mOr (aq (ae (dIn true) (aa (ae dIx (af 1) (aa (mC (.int 3))))) (aa (cN (aj (mC (.str (tx BR))) (aj (mC (.str (tx RU))) aN)))))) (aq (ae (dIs false) (af 3) (aa (mC .non)))) [.imm (.int (n : Nat)), .imm (.lst X), .imm PD, .imm ED, .un, .un, .un] = some (false, [.imm (.int (n : Nat)), .imm (.lst X), .imm PD, .imm ED, .un, .un, .un]) := by
  simp -implicitDefEqProofs [x3, ib, hne, -Q.a8]
 rw [fN, hpd, Option.bind_some, if_neg (by simp), T4, ai, if_neg (by simp), bA, ay, aE, iN]
 have v3 : au 3 [.imm (.int (n : Nat)), .imm (.lst X), .imm PD, .imm ED, .un, .un, .un] = some (ED, [.imm (.int (n : Nat)), .imm (.lst X), .imm PD, .imm ED, .un, .un, .un]) := rfl
 have G : gT 3 (aT (gN 4) (aT (gN 5) (aT (gN 6) dk))) ED [.imm (.int (n : Nat)), .imm (.lst X), .imm PD, .imm ED, .un, .un, .un] = some [.imm (.int (n : Nat)), .imm (.lst X), .imm PD, .imm ED, .imm OD, .imm (.bl ll), .imm (.lst WD)] := by
  rw [hED]; simp -implicitDefEqProofs
 rw [v3, ai, G, ai, ay, cz]
 have t5 := hU (a := aj (au 2) (aj (ae (aG false) (aa (ae dIx (af 1) (aa (mC (.int 3))))) (aa (mC (.str (tx BR))))) (aj (au 4) (aj (au 5) (aj (au 6) aN))))) (env := [.imm (.int (n : Nat)), .imm (.lst X), .imm PD, .imm ED, .imm OD, .imm (.bl ll), .imm (.lst WD)]) (e := [.imm (.int (n : Nat)), .imm (.lst X), .imm PD, .imm ED, .imm OD, .imm (.bl ll), .imm (.lst WD)]) (xs := [PD, .bl bb, OD, .bl ll, .lst WD]) (by
  simp -implicitDefEqProofs [x3, -Q.a8]
  simpa using isb) (by simp)
 rw [t5, ai, cK, ck, ai]
 exact ⟨rfl, rfl⟩
end Law
namespace Law
open PySem L2 Q
inductive St where
 | done
 | waits
 | has (n : Nat) (b : Bool)
structure Ord where
 s : Nat
 g : Nat
 st : St
def sx : St → Prop
 | .has n _ => n < 1000000
 | _ => True
structure Ook (o : Ord) : Prop where
 s : o.s < 8
 g : o.g < 8
 st : sx o.st
def stW : St → List (List Nat)
 | .done => [DN]
 | .waits => [WT]
 | .has n b => [ldW b, fg n]
def iT : St → List D
 | .done => [.bl true, .non, .bl false]
 | .waits => [.bl false, .non, .bl false]
 | .has n b => [.bl false, .int (n : Nat), .bl b]
def df (n : Nat) (o : Ord) : List (List Nat) := [OR, fg n, [65 + o.s], [65 + o.g]] ++ stW o.st
def dm (o : Ord) : D := .tup ([.str (tx [65 + o.s]), .str (tx [65 + o.g])] ++ iT o.st)
theorem A9 {l : List Nat} (h : ∀ c ∈ l, c < 1000) : PyData.strOk (tx l) = true := by
 unfold PyData.strOk
 show (l.toArray).all _ = true
 rw [List.all_toArray, List.all_eq_true]
 intro c hc
 have := h c hc
 exact decide_eq_true (by omega)
theorem v9 (n : Nat) : PyData.strOk (tx (fg n)) = true := A9 fun c hc => by have := mX hc; omega
theorem vK (b : Bool) : PyData.strOk (tx (ldW b)) = true := by cases b <;> decide +kernel
theorem vH (st : St) (w : List Nat) (hw : PyData.strOk (tx w) = true) : aG false (.lst (sW (stW st))) (.lst [.str (tx w)]) = some (.bl (decide (stW st = [w]))) := by
 have e : (.lst [.str (tx w)] : D) = .lst (sW [w]) := rfl
 have sh1 : ∀ a : List Nat, PyData.strOk (tx a) = true → SeqAt.shaped (.list [.str (tx a)]) = true := fun a ha => by
  unfold SeqAt.shaped; simp [PyData.canLay0, PyData.canLayAll0, PyData.depth, PyData.depthAll, ha]
 have sh2 : ∀ a b : List Nat, PyData.strOk (tx a) = true → PyData.strOk (tx b) = true → SeqAt.shaped (.list [.str (tx a), .str (tx b)]) = true := fun a b ha hb => by
  unfold SeqAt.shaped; simp [PyData.canLay0, PyData.canLayAll0, PyData.depth, PyData.depthAll, ha, hb]
 have one : ∀ a : List Nat, PyData.strOk (tx a) = true → aG false (.lst [.str (tx a)]) (.lst [.str (tx w)]) = some (.bl (decide ([a] = [w]))) := fun a ha => by
  show (if (SeqAt.shaped (.list [.str (tx a)]) && SeqAt.shaped (.list [.str (tx w)])) = true then some (D.bl (PyData.eqv (.list [.str (tx a)]) (.list [.str (tx w)]))) else none) = _
  rw [sh1 a ha, sh1 w hw, if_pos (by rfl)]
  have : PyData.eqv (.list [.str (tx a)]) (.list [.str (tx w)]) = decide ([a] = [w]) := by
   by_cases h : a = w
   ·subst h
    have h2 := SeqAt.eqv_refl (PyData.list [.str (tx a)]) (by simp [PyData.canLay0, PyData.canLayAll0, ha])
    rw [h2]; simp
   ·have : ¬ tx a = tx w := fun z => h (fe.mp z)
    simp [PyData.eqv, PyData.eqvAll, h, this]
  rw [this]
 cases st with
 | done => exact one DN (by decide +kernel)
 | waits => exact one WT (by decide +kernel)
 | has n b =>
  show (if (SeqAt.shaped (.list [.str (tx (ldW b)), .str (tx (fg n))]) && SeqAt.shaped (.list [.str (tx w)])) = true then some (D.bl (PyData.eqv (.list [.str (tx (ldW b)), .str (tx (fg n))]) (.list [.str (tx w)]))) else none) = _
  rw [sh2 _ _ (vK b) (v9 n), sh1 w hw, if_pos (by rfl)]
  have : PyData.eqv (.list [.str (tx (ldW b)), .str (tx (fg n))]) (.list [.str (tx w)]) = false := by
   simp [PyData.eqv, PyData.eqvAll]
  rw [this]
  simp [stW]
theorem wL (st : St) (h : sx st) : res jr iY [.imm (.lst (sW (stW st)))] [] = some (.tup (iT st), []) := by
 refine cg ?_
 unfold iY
 have e1 : ("done" : Str) = tx DN := rfl
 have e2 : ("waits" : Str) = tx WT := rfl
 have q1 := vH st DN (by decide +kernel)
 have q2 := vH st WT (by decide +kernel)
 rw [e1, e2]
 cases st with
 | done =>
  have q1 : aG false (.lst (sW (stW .done))) (.lst [.str (tx DN)]) = some (.bl true) := q1
  generalize sW (stW .done) = X at *
  simp -implicitDefEqProofs [q1, iT]
 | waits =>
  have q1 : aG false (.lst (sW (stW .waits))) (.lst [.str (tx DN)]) = some (.bl false) := q1
  have q2 : aG false (.lst (sW (stW .waits))) (.lst [.str (tx WT)]) = some (.bl true) := q2
  generalize sW (stW .waits) = X at *
  simp -implicitDefEqProofs [q1, q2, iT]
 | has n b =>
  have hn : n < 1000000 := h
  have d1 : decide (stW (.has n b) = [DN]) = false := mx (fun z => by injection z with _ z; cases z)
  have d2 : decide (stW (.has n b) = [WT]) = false := mx (fun z => by injection z with _ z; cases z)
  rw [d1] at q1
  rw [d2] at q2
  have rs : res fH fm [.imm (.lst (sW (stW (.has n b))))] [] = some (.tup [.bl b, .int (n : Nat)], []) := pH b hn
  generalize sW (stW (.has n b)) = X at *
  have A : ak fH 1 fm (fo 0 aA) [.imm (.lst X), .un, .un, .un] = some (.tup [.bl b, .int (n : Nat)], [.imm (.lst X), .un, .un, .un]) := by
   simp -implicitDefEqProofs [cU, rs]
  have T1 : ∀ (w : List Nat), aG false (.lst X) (.lst [.str (tx w)]) = some (.bl false) → aq (ae (aG false) (af 0) (aa (b8 (aj (mC (.str (tx w))) aN)))) [.imm (.lst X), .un, .un, .un] = some (false, [.imm (.lst X), .un, .un, .un]) := fun w hw => by
   simp -implicitDefEqProofs [hw]
  show W _ [.imm (.lst X), .un, .un, .un] _
  rw [aE, bI, T1 _ q1, ai, if_neg (by simp), bA, ay, aE, bI, T1 _ q2, ai, if_neg (by simp), bA, ay, aE, bQ, A, ai]
  refine ⟨by show 1 < 4; decide, ?_⟩
  rw [ay]
  show W _ [.imm (.lst X), .imm (.tup [.bl b, .int (n : Nat)]), .un, .un] _
  simp -implicitDefEqProofs [iT, D.isNon]
theorem lZ {k : Nat} (h : k < 8) : res iw iy [.imm (.str (tx [65 + k]))] [] = some (.bl true, []) := by
 refine cg ?_
 unfold iy
 have is := qX false (65 + k) "ABCDEFGH"
 have hm : decide ((65 + k) ∈ ("ABCDEFGH" : Str).cps.toList) = true := by
  have : ∀ k < 8, decide ((65 + k) ∈ ("ABCDEFGH" : Str).cps.toList) = true := by decide +kernel
  exact this k h
 rw [hm] at is
 have z : 1 ≤ sizeLine := szS (by omega)
 obtain ⟨SU, hSU⟩ : ∃ S : Str, ("ABCDEFGH" : Str) = S := ⟨_, rfl⟩
 have hm2 : (65 + k) ∈ SU.cps.toList := by rw [← hSU]; exact of_decide_eq_true hm
 rw [hSU] at is ⊢
 have is : dIn false (.str (tx [65 + k])) (.str SU) = some (.bl true) := is
 simp -implicitDefEqProofs only [cz, xR, cu, aW, dZ, cF, cS, b0, cj, aL, aP, bp, List.cons_append, List.nil_append, List.getElem?_cons_zero, Option.bind_some, Option.map_some, aV, get_slot, aO, len_str, dA, List.length_cons, List.length_nil, z, if_true, is]
 simp -implicitDefEqProofs
 exact Array.mem_toList_iff.mp hm2
end Law
namespace Law
open PySem L2 Q
theorem uJ (n : Nat) (o : Ord) (hn : n < 1000000) (ho : Ook o) : res e9 eB [.imm (.int (n : Nat)), .imm (.lst (sW (df n o)))] [] = some (dm o, []) := by
 refine cg ?_
 unfold eB
 have e1 : ("order" : Str) = tx OR := rfl
 rw [e1]
 obtain ⟨X, hX⟩ : ∃ X, X = sW (df n o) := ⟨_, rfl⟩
 obtain ⟨Y, hY⟩ : ∃ Y, Y = sW (stW o.st) := ⟨_, rfl⟩
 have e : X = .str (tx OR) :: .str (tx (fg n)) :: .str (tx [65 + o.s]) :: .str (tx [65 + o.g]) :: Y := by rw [hX, hY]; rfl
 have x0 : dIx (.lst X) (.int 0) = some (.str (tx OR)) := by rw [e, Q.a8, fP]; rfl
 have x1 : dIx (.lst X) (.int 1) = some (.str (tx (fg n))) := by rw [e, Q.a8, oY]; rfl
 have x2 : dIx (.lst X) (.int 2) = some (.str (tx [65 + o.s])) := by rw [e, Q.a8, o4]; rfl
 have x3 : dIx (.lst X) (.int 3) = some (.str (tx [65 + o.g])) := by
  rw [e, Q.a8]
  exact fj (.str (tx OR) :: .str (tx (fg n)) :: .str (tx [65 + o.s]) :: .str (tx [65 + o.g]) :: Y) 3
 have s4 : cq (.lst X) (some 4) none = some (.lst Y) := by
  show some (D.lst (cutD X (some ((4 : Nat) : Int)) none)) = _
  rw [eS, e]; rfl
 have hl : ¬ ((X.length : Nat) : Int) < 4 := by rw [e]; simp only [List.length_cons]; omega
 have rn := ic hn
 have rs := wL o.st ho.st
 have ls := lZ ho.s
 have lg := lZ ho.g
 rw [← hX]
 rw [← hY] at rs
 unfold dm
 obtain ⟨SD, hSD⟩ : ∃ SD, SD = D.tup (iT o.st) := ⟨_, rfl⟩
 rw [← hSD] at rs
 have T1 : mOr (aq (ae dLt (aa (mBi bT (aM (af 1) aY))) (aa (mC (.int 4))))) (mOr (aq (ae (aG true) (aa (ae dIx (af 1) (aa (mC (.int 0))))) (aa (mC (.str (tx OR)))))) (aq (ae (aG true) (aa (ak cB 1 cC (aC (ae dIx (af 1) (aa (mC (.int 1)))) aA))) (af 0)))) [.imm (.int (n : Nat)), .imm (.lst X), .un, .un, .un, .un] = some (false, [.imm (.int (n : Nat)), .imm (.lst X), .un, .un, .un, .un]) := by
  simp -implicitDefEqProofs [hl, x0, x1, cU, rn, -Q.a8]
 have A2 : ak jr 1 iY (aC (mSl cq (af 1) (b9 (mC (.int 4))) cf) aA) [.imm (.int (n : Nat)), .imm (.lst X), .un, .un, .un, .un] = some (SD, [.imm (.int (n : Nat)), .imm (.lst X), .un, .un, .un, .un]) := by
  simp -implicitDefEqProofs [cU, s4, rs]
 have hne : SD.isNon = false := by rw [hSD]; rfl
 obtain ⟨d1, d2, d3, hd⟩ : ∃ d1 d2 d3, iT o.st = [d1, d2, d3] := by cases o.st <;> exact ⟨_, _, _, rfl⟩
 rw [hd] at hSD ⊢
 have T3 : mOr (gD (bZ (aa (ak iw 1 iy (aC (ae dIx (af 1) (aa (mC (.int 2)))) aA))))) (mOr (gD (bZ (aa (ak iw 1 iy (aC (ae dIx (af 1) (aa (mC (.int 3)))) aA))))) (aq (ae (dIs false) (af 2) (aa (mC .non))))) [.imm (.int (n : Nat)), .imm (.lst X), .imm SD, .un, .un, .un] = some (false, [.imm (.int (n : Nat)), .imm (.lst X), .imm SD, .un, .un, .un]) := by
  simp -implicitDefEqProofs [cU, x2, x3, ls, lg, hne, -Q.a8]
 rw [aE, bI]
 show Gt (mOr _ _ [.imm (.int (n : Nat)), .imm (.lst X), .un, .un, .un, .un]) _
 rw [T1, ai, if_neg (by simp), bA, ay, aE, bQ, A2, ai]
 refine ⟨by show 2 < 6; decide, ?_⟩
 rw [ay, aE, bI]
 show Gt (mOr _ _ [.imm (.int (n : Nat)), .imm (.lst X), .imm SD, .un, .un, .un]) _
 rw [T3, ai, if_neg (by simp), bA, ay, aE, iN]
 have v2 : au 2 [.imm (.int (n : Nat)), .imm (.lst X), .imm SD, .un, .un, .un] = some (SD, [.imm (.int (n : Nat)), .imm (.lst X), .imm SD, .un, .un, .un]) := rfl
 have G : gT 3 (aT (gN 3) (aT (gN 4) (aT (gN 5) dk))) SD [.imm (.int (n : Nat)), .imm (.lst X), .imm SD, .un, .un, .un] = some [.imm (.int (n : Nat)), .imm (.lst X), .imm SD, .imm d1, .imm d2, .imm d3] := by
  rw [hSD]; simp -implicitDefEqProofs
 rw [v2, ai, G, ai, ay, cz]
 have t5 := hU (a := aj (ae dIx (af 1) (aa (mC (.int 2)))) (aj (ae dIx (af 1) (aa (mC (.int 3)))) (aj (au 3) (aj (au 4) (aj (au 5) aN))))) (env := [.imm (.int (n : Nat)), .imm (.lst X), .imm SD, .imm d1, .imm d2, .imm d3]) (e := [.imm (.int (n : Nat)), .imm (.lst X), .imm SD, .imm d1, .imm d2, .imm d3]) (xs := [.str (tx [65 + o.s]), .str (tx [65 + o.g]), d1, d2, d3]) (by
  simp -implicitDefEqProofs [x2, x3, -Q.a8]) (by simp)
 rw [t5, ai, cK, ck, ai]
 exact ⟨rfl, rfl⟩
theorem uz (k n : Nat) (o : Ord) : res eU ee [.imm (.int (k : Nat)), .imm (.lst (sW (df n o)))] [] = some (.non, []) := by
 refine cg ?_
 unfold ee
 have e1 : ("robot" : Str) = tx RB := rfl
 rw [e1]
 obtain ⟨X, hX⟩ : ∃ X, X = sW (df n o) := ⟨_, rfl⟩
 have e : X = .str (tx OR) :: .str (tx (fg n)) :: .str (tx [65 + o.s]) :: .str (tx [65 + o.g]) :: sW (stW o.st) := by rw [hX]; rfl
 have x0 : dIx (.lst X) (.int 0) = some (.str (tx OR)) := by rw [e, Q.a8, fP]; rfl
 have hl : ¬ ((X.length : Nat) : Int) < 4 := by rw [e]; simp only [List.length_cons]; omega
 have hne : ¬ tx OR = tx RB := fun z => by have := fe.mp z; revert this; decide
 rw [← hX]
 have T1 : mOr (aq (ae dLt (aa (mBi bT (aM (af 1) aY))) (aa (mC (.int 4))))) (mOr (aq (ae (aG true) (aa (ae dIx (af 1) (aa (mC (.int 0))))) (aa (mC (.str (tx RB)))))) (aq (ae (aG true) (aa (ak cB 1 cC (aC (ae dIx (af 1) (aa (mC (.int 1)))) aA))) (af 0)))) [.imm (.int (k : Nat)), .imm (.lst X), .un, .un, .un, .un, .un] = some (true, [.imm (.int (k : Nat)), .imm (.lst X), .un, .un, .un, .un, .un]) := by
  simp -implicitDefEqProofs only [fN, cu, aW, dZ, cF, cS, b0, cj, aL, aP, bp, List.getElem?_cons_succ, List.getElem?_cons_zero, Option.bind_some, Option.map_some, aV, get_slot, aO, eJ, fy, hl, decide_false, Bool.false_eq_true, if_false, x0, eI, hne, if_true, Bool.not_false]
 rw [aE, bI]
 show Gt (mOr _ _ [.imm (.int (k : Nat)), .imm (.lst X), .un, .un, .un, .un, .un]) _
 rw [T1, ai, if_pos rfl, cz, bp, ai, dD, cK, ck, ai]
 exact ⟨rfl, rfl⟩
theorem uM (k n : Nat) (r : Rob) : res e9 eB [.imm (.int (k : Nat)), .imm (.lst (sW (dh n r)))] [] = some (.non, []) := by
 refine cg ?_
 unfold eB
 have e1 : ("order" : Str) = tx OR := rfl
 rw [e1]
 obtain ⟨X, hX⟩ : ∃ X, X = sW (dh n r) := ⟨_, rfl⟩
 have e : X = .str (tx RB) :: .str (tx (fg n)) :: .str (tx (plW r.place)) :: .str (tx (brW r.broken)) :: sW (eW r.er) := by rw [hX]; rfl
 have x0 : dIx (.lst X) (.int 0) = some (.str (tx RB)) := by rw [e, Q.a8, fP]; rfl
 have hl : ¬ ((X.length : Nat) : Int) < 4 := by rw [e]; simp only [List.length_cons]; omega
 have hne : ¬ tx RB = tx OR := fun z => by have := fe.mp z; revert this; decide
 rw [← hX]
 have T1 : mOr (aq (ae dLt (aa (mBi bT (aM (af 1) aY))) (aa (mC (.int 4))))) (mOr (aq (ae (aG true) (aa (ae dIx (af 1) (aa (mC (.int 0))))) (aa (mC (.str (tx OR)))))) (aq (ae (aG true) (aa (ak cB 1 cC (aC (ae dIx (af 1) (aa (mC (.int 1)))) aA))) (af 0)))) [.imm (.int (k : Nat)), .imm (.lst X), .un, .un, .un, .un] = some (true, [.imm (.int (k : Nat)), .imm (.lst X), .un, .un, .un, .un]) := by
  simp -implicitDefEqProofs only [fN, cu, aW, dZ, cF, cS, b0, cj, aL, aP, bp, List.getElem?_cons_succ, List.getElem?_cons_zero, Option.bind_some, Option.map_some, aV, get_slot, aO, eJ, fy, hl, decide_false, Bool.false_eq_true, if_false, x0, eI, hne, if_true, Bool.not_false]
 rw [aE, bI]
 show Gt (mOr _ _ [.imm (.int (k : Nat)), .imm (.lst X), .un, .un, .un, .un]) _
 rw [T1, ai, if_pos rfl, cz, bp, ai, dD, cK, ck, ai]
 exact ⟨rfl, rfl⟩
end Law
namespace Law
open PySem L2 Q
theorem sj {i : Nat} {e : ME} {env env' : En} {xs ys zs : List D} {Q : Fl → Prop} (h0 : c4 env i = some ys) (h1 : e env = some (.lst zs, env')) (h2 : c4 env' i = some xs) (hl : xs.length + zs.length ≤ 10000) (k : Q (.nx (b7 env' i (.lst (xs ++ zs))))) : W (jM i e) env Q := by
 refine ⟨_, ?_, k⟩
 have : xs.length + zs.length ≤ sizeLine := szS hl
 unfold jM
 rw [h0]; simp only [Option.bind_some]
 rw [h1]; simp only [Option.bind_some]
 rw [h2]; simp only [Option.bind_some]
 rw [if_pos this]
theorem jB {c : Nat} {ws : List (List Nat)} (h1 : ws.length ≤ 200) (h2 : ∀ w ∈ ws, w.length ≤ 2000) : gS ⟨#[c]⟩ (.lst (sW ws)) = some (.str (tx (aB c ws))) := by
 have j1 : ∀ S : List (List Nat), lR (sW S) = some (S.map tx) := fun S => by
  induction S with
  | nil => rfl
  | cons c l ih => simp only [List.map_cons, lR, ih, Option.map_some]
 have j2 : ∀ S : List (List Nat), (∀ r ∈ S, r.length ≤ 2000) → ((S.map tx).map (·.length)).sum ≤ S.length * 2000 := fun S hS => by
  induction S with
  | nil => simp
  | cons q S ih =>
   have a := ih fun r hr => hS r (List.mem_cons_of_mem _ hr)
   have b := hS q (by simp)
   simp only [List.map_cons, List.sum_cons, List.length_cons, dA] at a ⊢
   omega
 have z : (⟨#[c]⟩ : Str).length = 1 := rfl
 unfold gS
 have h := j2 ws h2
 simp only [D.items?, Option.bind_some, j1]
 rw [if_pos (by rw [z, List.length_map]; omega), xP]
theorem jD {p : Option (Nat × Nat)} (hp : ∀ q, p = some q → Pok q) : (plW p).length ≤ 13 := by
 cases p with
 | none => decide
 | some q =>
  obtain ⟨h1, h2⟩ := hp q rfl
  have l1 := (cV (n := q.1) (by omega)).2
  have l2 := (cV (n := q.2) (by omega)).2
  unfold plW
  simp
  omega
theorem qv (b : Bool) : (brW b).length ≤ 13 := by cases b <;> decide
theorem qS (b : Bool) : (ldW b).length ≤ 13 := by cases b <;> decide
theorem lW {b : Bool} {o : Option Nat} (h : ∀ n, o = some n → n < 1000000) : (shW b o).length ≤ 2 ∧ ∀ w ∈ shW b o, w.length ≤ 13 := by
 cases o with
 | none => exact ⟨Nat.zero_le 2, fun w hw => by cases hw⟩
 | some n =>
  refine ⟨Nat.le_refl 2, fun w hw => ?_⟩
  have := (cV (h n rfl)).2
  rcases List.mem_cons.mp hw with rfl | hw
  ·exact qS b
  ·have : w = fg n := by simpa using hw
   rw [this]; omega
theorem vh {ps : List (Nat × Nat)} (h : ∀ p ∈ ps, Pok p) (hl : ps.length ≤ 100) : (dO ps).length ≤ 101 ∧ ∀ w ∈ dO ps, w.length ≤ 13 := by
 unfold dO
 cases ps with
 | nil => exact ⟨by decide, fun w hw => by cases hw⟩
 | cons p ps =>
  refine ⟨by simp at hl ⊢; omega, fun w hw => ?_⟩
  rcases List.mem_cons.mp hw with rfl | hw
  ·decide
  ·obtain ⟨q, hq, rfl⟩ := List.mem_map.mp hw
   exact jD fun r e => by cases e; exact h q hq
theorem j7 {n : Nat} {r : Rob} (hn : n < 1000000) (hr : Rok r) : (dh n r).length ≤ 110 ∧ ∀ w ∈ dh n r, w.length ≤ 13 := by
 obtain ⟨a1, a2⟩ := lW (b := r.er.loaded) hr.e.o
 obtain ⟨b1, b2⟩ := vh hr.e.w hr.e.n
 have hf := (cV hn).2
 unfold dh eW
 refine ⟨by simp only [List.length_append, List.length_cons, List.length_nil]; omega, fun w hw => ?_⟩
 rcases List.mem_append.mp hw with hw | hw
 ·simp only [List.mem_cons, List.not_mem_nil, or_false] at hw
  rcases hw with rfl | rfl | rfl | rfl
  ·decide
  ·omega
  ·exact jD hr.p
  ·exact qv _
 ·rcases List.mem_append.mp hw with hw | hw
  ·exact a2 w hw
  ·exact b2 w hw
theorem yY {a b c d : ME} {env : En} {x y z w : D} (h1 : a env = some (x, env)) (h2 : b env = some (y, env)) (h3 : c env = some (z, env)) (h4 : d env = some (w, env)) : b8 (aj a (aj b (aj c (aj d aN)))) env = some (.lst [x, y, z, w], env) := ie (by simp [h1, h2, h3, h4]) (by simp)
theorem uQ (n : Nat) (r : Rob) (hn : n < 1000000) (hr : Rok r) : res kb lL [.imm (.int (n : Nat)), .imm (di r)] [] = some (.str (tx (aB 32 (dh n r))), []) := by
 refine cg ?_
 unfold lL
 have e1 : ("robot" : Str) = tx RB := rfl
 have e3 : ("broken" : Str) = tx BR := rfl
 have e4 : ("runs" : Str) = tx RU := rfl
 have e5 : ("loaded" : Str) = tx LD := rfl
 have e6 : ("empty" : Str) = tx EM := rfl
 have e7 : ("way" : Str) = tx WY := rfl
 have e8 : (" " : Str) = ⟨#[32]⟩ := rfl
 rw [e1, e3, e4, e5, e6, e7, e8]
 obtain ⟨l1, l2⟩ := j7 hn hr
 have jn := jB (c := 32) (ws := dh n r) (by omega) (fun w hw => by have := l2 w hw; omega)
 obtain ⟨JS, hJS⟩ : ∃ JS, JS = tx (aB 32 (dh n r)) := ⟨_, rfl⟩
 rw [← hJS] at jn ⊢
 have wp := sV r.place hr.p
 have hwo := hr.e.o
 have hww := hr.e.w
 have hwn := hr.e.n
 have sn := gZ hn
 have hrW : dh n r = [RB, fg n, plW r.place, brW r.broken] ++ (shW r.er.loaded r.er.order ++ dO r.er.way) := rfl
 rw [hrW] at jn
 unfold di
 obtain ⟨pl, br, ⟨o, ld, w⟩⟩ := r
 dsimp only at *
 obtain ⟨RD, hRD⟩ : ∃ RD, RD = D.tup [bR pl, .bl br, orD o, .bl ld, .lst (w.map pD)] := ⟨_, rfl⟩
 rw [← hRD]
 generalize hPD : bR pl = PD at *
 obtain ⟨OD, hOD⟩ : ∃ OD, OD = orD o := ⟨_, rfl⟩
 obtain ⟨WD, hWD⟩ : ∃ WD, WD = w.map pD := ⟨_, rfl⟩
 rw [← hOD, ← hWD] at hRD
 have v1 : au 1 [.imm (.int (n : Nat)), .imm RD, .un, .un, .un, .un, .un, .un, .un] = some (RD, [.imm (.int (n : Nat)), .imm RD, .un, .un, .un, .un, .un, .un, .un]) := rfl
 have G : gT 5 (aT (gN 2) (aT (gN 3) (aT (gN 4) (aT (gN 5) (aT (gN 6) dk))))) RD [.imm (.int (n : Nat)), .imm RD, .un, .un, .un, .un, .un, .un, .un] = some [.imm (.int (n : Nat)), .imm RD, .imm PD, .imm (.bl br), .imm OD, .imm (.bl ld), .imm (.lst WD), .un, .un] := by
  rw [hRD]; simp -implicitDefEqProofs
 show W _ [.imm (.int (n : Nat)), .imm RD, .un, .un, .un, .un, .un, .un, .un] _
 rw [aE, iN, v1, ai, G, ai, ay, aE, fK]
 generalize hE : ([.imm (.int (n : Nat)), .imm RD, .imm PD, .imm (.bl br), .imm OD, .imm (.bl ld), .imm (.lst WD)] : En) = E0
 have E0at : ∀ (i : Nat) (s t : Sl), i < 7 → (E0 ++ [s, t])[i]? = E0[i]? := fun i s t hi => by
  rw [List.getElem?_append_left (by rw [← hE]; exact hi)]
 have hE0 : E0 ++ [.un, .un] = [.imm (.int (n : Nat)), .imm RD, .imm PD, .imm (.bl br), .imm OD, .imm (.bl ld), .imm (.lst WD), .un, .un] := by rw [← hE]; rfl
 have L : b8 (aj (mC (.str (tx RB))) (aj (mBi dF (aM (af 0) aY)) (aj (ak gC 1 gI (aC (au 2) aA)) (aj (mIf (bZ (af 3)) (mC (.str (tx BR))) (mC (.str (tx RU)))) aN)))) [.imm (.int (n : Nat)), .imm RD, .imm PD, .imm (.bl br), .imm OD, .imm (.bl ld), .imm (.lst WD), .un, .un] = some (.lst (sW [RB, fg n, plW pl, brW br]), [.imm (.int (n : Nat)), .imm RD, .imm PD, .imm (.bl br), .imm OD, .imm (.bl ld), .imm (.lst WD), .un, .un]) := by
  refine yY rfl ?_ ?_ ?_
  ·simp -implicitDefEqProofs [sn]
  ·simp -implicitDefEqProofs [cU, wp]
  ·unfold mIf
   cases br <;> rfl
 rw [L, ai]
 refine ⟨by show 7 < 9; decide, ?_⟩
 rw [ay]
 show W _ [.imm (.int (n : Nat)), .imm RD, .imm PD, .imm (.bl br), .imm OD, .imm (.bl ld), .imm (.lst WD), .own (.lst (sW [RB, fg n, plW pl, brW br])), .un] _
 -- the end, once the way is told
 have fin : ∀ (ws : List (List Nat)), ws = [RB, fg n, plW pl, brW br] ++ (shW ld o ++ dO w) → ∀ s8 : Sl, W (be (d7 (mC (.str ⟨#[32]⟩)) (af 7))) [.imm (.int (n : Nat)), .imm RD, .imm PD, .imm (.bl br), .imm OD, .imm (.bl ld), .imm (.lst WD), .own (.lst (sW ws)), s8] (RtA [] fun _ d ds => d = .str JS ∧ ds = []) := by
  rintro ws rfl s8
  generalize sW ([RB, fg n, plW pl, brW br] ++ (shW ld o ++ dO w)) = X at jn
  simp -implicitDefEqProofs only [cz, iH, bp, aL, List.getElem?_cons_succ, List.getElem?_cons_zero, Option.bind_some, Option.map_some, pG, get_slot, jn, ai, cK, ck]
  exact ⟨trivial, trivial⟩
 have way : ∀ (ws : List (List Nat)), ws = [RB, fg n, plW pl, brW br] ++ shW ld o → W (aH (bx (bZ (af 6))
   (jM 7 (ae ff (aa (b8 (aj (mC (.str (tx WY))) aN))) (aa (mLc [8] (eA (au 6)) (gN 8) cZ (ak gC 1 gI (aC (au 8) aA))))))
   bC)
   (be (d7 (mC (.str ⟨#[32]⟩)) (af 7)))) [.imm (.int (n : Nat)), .imm RD, .imm PD, .imm (.bl br), .imm OD, .imm (.bl ld), .imm (.lst WD), .own (.lst (sW ws)), .un] (RtA [] fun _ d ds => d = .str JS ∧ ds = []) := by
  intro ws hws
  have hwl : ws.length ≤ 10 := by
   have := (lW (b := ld) hwo).1
   rw [hws, List.length_append]
   show 4 + _ ≤ 10
   omega
  obtain ⟨X, hX⟩ : ∃ X, X = sW ws := ⟨_, rfl⟩
  have hXl : X.length ≤ 10 := by rw [hX, List.length_map]; exact hwl
  rw [← hX, aE, bI]
  cases hw : w with
  | nil =>
   have hWD0 : WD = [] := by rw [hWD, hw]; rfl
   have T : bZ (af 6) [.imm (.int (n : Nat)), .imm RD, .imm PD, .imm (.bl br), .imm OD, .imm (.bl ld), .imm (.lst WD), .own (.lst X), .un] = some (false, [.imm (.int (n : Nat)), .imm RD, .imm PD, .imm (.bl br), .imm OD, .imm (.bl ld), .imm (.lst WD), .own (.lst X), .un]) := by
    rw [hWD0]; rfl
   rw [T, ai, if_neg (by simp), bA, ay, hX]
   exact fin ws (by rw [hws, hw]; simp [dO]) .un
  | cons p w' =>
   have T : bZ (af 6) [.imm (.int (n : Nat)), .imm RD, .imm PD, .imm (.bl br), .imm OD, .imm (.bl ld), .imm (.lst WD), .own (.lst X), .un] = some (true, [.imm (.int (n : Nat)), .imm RD, .imm PD, .imm (.bl br), .imm OD, .imm (.bl ld), .imm (.lst WD), .own (.lst X), .un]) := by
    rw [hWD, hw]; rfl
   obtain ⟨acc, e2, h1, ⟨t, rfl⟩, h3⟩ := l4 (vs := [8]) (mi := eA (au 6)) (gf := gN 8) (mt := cZ) (me := ak gC 1 gI (aC (au 8) aA)) (env := [.imm (.int (n : Nat)), .imm RD, .imm PD, .imm (.bl br), .imm OD, .imm (.bl ld), .imm (.lst WD), .own (.lst X), .un]) (e0 := [.imm (.int (n : Nat)), .imm RD, .imm PD, .imm (.bl br), .imm OD, .imm (.bl ld), .imm (.lst WD), .own (.lst X), .un]) (ds := w.map pD) (by rw [← hWD]; simp -implicitDefEqProofs) rfl
    (by rw [List.length_map]; omega) (fun e => ∃ t, e = [.imm (.int (n : Nat)), .imm RD, .imm PD, .imm (.bl br), .imm OD, .imm (.bl ld), .imm (.lst WD), .own (.lst X), t]) (fun k acc => acc = sW ((w.take k).map fun p => plW (some p))) ⟨_, rfl⟩ (by simp) (by
     rintro i d e acc hd ⟨t, rfl⟩ rfl
     rw [List.getElem?_map] at hd
     obtain ⟨q, hq, rfl⟩ := Option.map_eq_some_iff.mp hd
     have wq : res gC gI [.imm (pD q)] [] = some (.str (tx (plW (some q))), []) := sV (some q) fun r e => by cases e; exact hww q (List.mem_of_getElem? hq)
     refine ⟨[.imm (.int (n : Nat)), .imm RD, .imm PD, .imm (.bl br), .imm OD, .imm (.bl ld), .imm (.lst WD), .own (.lst X), .imm (pD q)], true, [.imm (.int (n : Nat)), .imm RD, .imm PD, .imm (.bl br), .imm OD, .imm (.bl ld), .imm (.lst WD), .own (.lst X), .imm (pD q)], by simp -implicitDefEqProofs [bY], rfl, fun _ => ⟨.str (tx (plW (some q))), [.imm (.int (n : Nat)), .imm RD, .imm PD, .imm (.bl br), .imm OD, .imm (.bl ld), .imm (.lst WD), .own (.lst X), .imm (pD q)], ?_, ⟨_, rfl⟩, ?_⟩, fun z => by cases z⟩
     ·generalize pD q = qd at wq ⊢
      generalize tx (plW (some q)) = qt at wq ⊢
      simp -implicitDefEqProofs [cU, wq]
     ·rw [List.take_add_one, hq]; simp)
   rw [List.length_map, List.take_length] at h3
   have hbk : cW [.imm (.int (n : Nat)), .imm RD, .imm PD, .imm (.bl br), .imm OD, .imm (.bl ld), .imm (.lst WD), .own (.lst X), .un] (bY [.imm (.int (n : Nat)), .imm RD, .imm PD, .imm (.bl br), .imm OD, .imm (.bl ld), .imm (.lst WD), .own (.lst X), t] [8]) [8] = [.imm (.int (n : Nat)), .imm RD, .imm PD, .imm (.bl br), .imm OD, .imm (.bl ld), .imm (.lst WD), .own (.lst X), .un] := by simp -implicitDefEqProofs [cW, bY]
   rw [hbk, h3] at h1
   obtain ⟨Z, hZ⟩ : ∃ Z, Z = sW (w.map fun p => plW (some p)) := ⟨_, rfl⟩
   have hZl : Z.length ≤ 100 := by rw [hZ, List.length_map, List.length_map]; exact hwn
   rw [← hZ] at h1
   have zc : 1 + Z.length ≤ sizeLine := szS (by omega)
   have C : ae ff (aa (b8 (aj (mC (.str (tx WY))) aN))) (aa (mLc [8] (eA (au 6)) (gN 8) cZ (ak gC 1 gI (aC (au 8) aA)))) [.imm (.int (n : Nat)), .imm RD, .imm PD, .imm (.bl br), .imm OD, .imm (.bl ld), .imm (.lst WD), .own (.lst X), .un] = some (.lst (.str (tx WY) :: Z), [.imm (.int (n : Nat)), .imm RD, .imm PD, .imm (.bl br), .imm OD, .imm (.bl ld), .imm (.lst WD), .own (.lst X), .un]) := by
    simp -implicitDefEqProofs only [aW, aP, Bc, bp, Option.map_some, Option.bind_some, h1, aO, jx, List.length_cons, List.length_nil, zc, if_true, Nat.zero_add, List.cons_append, List.nil_append]
   rw [T, ai, if_pos rfl]
   refine sj (ys := X) (xs := X) rfl C rfl (by simp; omega) ?_
   rw [ay]
   show W _ [.imm (.int (n : Nat)), .imm RD, .imm PD, .imm (.bl br), .imm OD, .imm (.bl ld), .imm (.lst WD), .own (.lst (X ++ .str (tx WY) :: Z)), .un] _
   have hXZ : X ++ .str (tx WY) :: Z = sW (ws ++ dO w) := by rw [hX, hZ, hw]; unfold dO; simp
   rw [hXZ]
   exact fin (ws ++ dO w) (by rw [hws, List.append_assoc]) .un
 rw [aE, bI]
 cases ho : o with
 | none =>
  have T : aq (ae (dIs true) (af 4) (aa (mC .non))) [.imm (.int (n : Nat)), .imm RD, .imm PD, .imm (.bl br), .imm OD, .imm (.bl ld), .imm (.lst WD), .own (.lst (sW [RB, fg n, plW pl, brW br])), .un] = some (false, [.imm (.int (n : Nat)), .imm RD, .imm PD, .imm (.bl br), .imm OD, .imm (.bl ld), .imm (.lst WD), .own (.lst (sW [RB, fg n, plW pl, brW br])), .un]) := by
   rw [hOD, ho]; rfl
  rw [T, ai, if_neg (by simp), bA, ay]
  exact way [RB, fg n, plW pl, brW br] (by rw [ho]; simp [shW])
 | some m =>
  have hm := hwo m ho
  have sm := gZ hm
  have T : aq (ae (dIs true) (af 4) (aa (mC .non))) [.imm (.int (n : Nat)), .imm RD, .imm PD, .imm (.bl br), .imm OD, .imm (.bl ld), .imm (.lst WD), .own (.lst (sW [RB, fg n, plW pl, brW br])), .un] = some (true, [.imm (.int (n : Nat)), .imm RD, .imm PD, .imm (.bl br), .imm OD, .imm (.bl ld), .imm (.lst WD), .own (.lst (sW [RB, fg n, plW pl, brW br])), .un]) := by
   rw [hOD, ho]; rfl
  have hOm : OD = .int (m : Nat) := by rw [hOD, ho]; rfl
  have C : b8 (aj (mIf (bZ (af 5)) (mC (.str (tx LD))) (mC (.str (tx EM)))) (aj (mBi dF (aM (af 4) aY)) aN)) [.imm (.int (n : Nat)), .imm RD, .imm PD, .imm (.bl br), .imm OD, .imm (.bl ld), .imm (.lst WD), .own (.lst (sW [RB, fg n, plW pl, brW br])), .un] = some (.lst (sW (shW ld o)), [.imm (.int (n : Nat)), .imm RD, .imm PD, .imm (.bl br), .imm OD, .imm (.bl ld), .imm (.lst WD), .own (.lst (sW [RB, fg n, plW pl, brW br])), .un]) := by
   rw [hOm, ho, vY]
   generalize sW [RB, fg n, plW pl, brW br] = X
   unfold mIf
   cases ld <;> simp -implicitDefEqProofs [sm] <;> rfl
  have hsl := (lW (b := ld) hwo).1
  rw [T, ai, if_pos rfl]
  refine sj (ys := sW [RB, fg n, plW pl, brW br]) (xs := sW [RB, fg n, plW pl, brW br]) rfl C rfl (by rw [List.length_map, List.length_map]; show 4 + _ ≤ 10000; omega) ?_
  rw [ay]
  have := way ([RB, fg n, plW pl, brW br] ++ shW ld o) rfl
  have es : sW ([RB, fg n, plW pl, brW br] ++ shW ld o) = sW [RB, fg n, plW pl, brW br] ++ sW (shW ld o) := by simp
  rw [es] at this
  exact this
end Law
namespace Law
open PySem L2 Q
theorem jV {n : Nat} {o : Ord} (hn : n < 1000000) (ho : Ook o) : (df n o).length ≤ 6 ∧ ∀ w ∈ df n o, w.length ≤ 13 := by
 have hf := (cV hn).2
 have hs : (stW o.st).length ≤ 2 ∧ ∀ w ∈ stW o.st, w.length ≤ 13 := by
  have hst := ho.st
  cases h : o.st with
  | done => exact ⟨by decide, fun w hw => by cases hw with | head => decide | tail _ h => cases h⟩
  | waits => exact ⟨by decide, fun w hw => by cases hw with | head => decide | tail _ h => cases h⟩
  | has m b =>
   rw [h] at hst
   have hm := (cV (show m < 1000000 from hst)).2
   refine ⟨Nat.le_refl 2, fun w hw => ?_⟩
   rcases List.mem_cons.mp hw with rfl | hw
   ·exact qS b
   ·have : w = fg m := by simpa using hw
    rw [this]; omega
 obtain ⟨h1, h2⟩ := hs
 unfold df
 refine ⟨by simp only [List.length_append, List.length_cons, List.length_nil]; omega, fun w hw => ?_⟩
 rcases List.mem_append.mp hw with hw | hw
 ·simp only [List.mem_cons, List.not_mem_nil, or_false] at hw
  rcases hw with rfl | rfl | rfl | rfl
  ·decide
  ·omega
  ·exact Nat.le_of_ble_eq_true rfl
  ·exact Nat.le_of_ble_eq_true rfl
 ·exact h2 w hw
theorem vk (n : Nat) (o : Ord) (hn : n < 1000000) (ho : Ook o) : res j8 jW [.imm (.int (n : Nat)), .imm (dm o)] [] = some (.str (tx (aB 32 (df n o))), []) := by
 refine cg ?_
 unfold jW
 have e1 : ("order" : Str) = tx OR := rfl
 have e3 : ("done" : Str) = tx DN := rfl
 have e4 : ("waits" : Str) = tx WT := rfl
 have e5 : ("loaded" : Str) = tx LD := rfl
 have e6 : ("empty" : Str) = tx EM := rfl
 have e8 : (" " : Str) = ⟨#[32]⟩ := rfl
 rw [e1, e3, e4, e5, e6, e8]
 obtain ⟨l1, l2⟩ := jV hn ho
 have jn := jB (c := 32) (ws := df n o) (by omega) (fun w hw => by have := l2 w hw; omega)
 obtain ⟨JS, hJS⟩ : ∃ JS, JS = tx (aB 32 (df n o)) := ⟨_, rfl⟩
 rw [← hJS] at jn ⊢
 have hst := ho.st
 have sn := gZ hn
 have hoW : df n o = [OR, fg n, [65 + o.s], [65 + o.g]] ++ stW o.st := rfl
 rw [hoW] at jn
 unfold dm
 obtain ⟨os, og, st⟩ := o
 dsimp only at *
 obtain ⟨SA, hSA⟩ : ∃ SA, SA = D.str (tx [65 + os]) := ⟨_, rfl⟩
 obtain ⟨SB, hSB⟩ : ∃ SB, SB = D.str (tx [65 + og]) := ⟨_, rfl⟩
 rw [← hSA, ← hSB]
 obtain ⟨d1, d2, d3, hd⟩ : ∃ d1 d2 d3, iT st = [d1, d2, d3] := by cases st <;> exact ⟨_, _, _, rfl⟩
 obtain ⟨RD, hRD⟩ : ∃ RD, RD = D.tup ([SA, SB] ++ iT st) := ⟨_, rfl⟩
 rw [← hRD]
 have hRD1 := hRD
 rw [hd] at hRD
 have v1 : au 1 [.imm (.int (n : Nat)), .imm RD, .un, .un, .un, .un, .un, .un] = some (RD, [.imm (.int (n : Nat)), .imm RD, .un, .un, .un, .un, .un, .un]) := rfl
 have G : gT 5 (aT (gN 2) (aT (gN 3) (aT (gN 4) (aT (gN 5) (aT (gN 6) dk))))) RD [.imm (.int (n : Nat)), .imm RD, .un, .un, .un, .un, .un, .un] = some [.imm (.int (n : Nat)), .imm RD, .imm SA, .imm SB, .imm d1, .imm d2, .imm d3, .un] := by
  rw [hRD]; simp -implicitDefEqProofs
 show W _ [.imm (.int (n : Nat)), .imm RD, .un, .un, .un, .un, .un, .un] _
 rw [aE, iN, v1, ai, G, ai, ay, aE, fK]
 have L : b8 (aj (mC (.str (tx OR))) (aj (mBi dF (aM (af 0) aY)) (aj (au 2) (aj (au 3) aN)))) [.imm (.int (n : Nat)), .imm RD, .imm SA, .imm SB, .imm d1, .imm d2, .imm d3, .un] = some (.lst [.str (tx OR), .str (tx (fg n)), SA, SB], [.imm (.int (n : Nat)), .imm RD, .imm SA, .imm SB, .imm d1, .imm d2, .imm d3, .un]) := by
  refine yY rfl ?_ rfl rfl
  simp -implicitDefEqProofs [sn]
 rw [L, ai]
 refine ⟨by show 7 < 8; decide, ?_⟩
 rw [ay]
 have hX0 : [.str (tx OR), .str (tx (fg n)), SA, SB] = sW [OR, fg n, [65 + os], [65 + og]] := by rw [hSA, hSB]; rfl
 rw [hX0]
 obtain ⟨X, hX⟩ : ∃ X, X = sW [OR, fg n, [65 + os], [65 + og]] := ⟨_, rfl⟩
 have hXl : X.length = 4 := by rw [hX]; rfl
 rw [← hX]
 show W _ [.imm (.int (n : Nat)), .imm RD, .imm SA, .imm SB, .imm d1, .imm d2, .imm d3, .own (.lst X)] _
 have hjX : gS ⟨#[32]⟩ (.lst (X ++ sW (stW st))) = some (.str JS) := by
  have : X ++ sW (stW st) = sW ([OR, fg n, [65 + os], [65 + og]] ++ stW st) := by rw [hX]; exact (List.map_append).symm
  rw [this]; exact jn
 -- the end, once the state is told
 have fin : ∀ Y : List D, gS ⟨#[32]⟩ (.lst Y) = some (.str JS) → W (be (d7 (mC (.str ⟨#[32]⟩)) (af 7))) [.imm (.int (n : Nat)), .imm RD, .imm SA, .imm SB, .imm d1, .imm d2, .imm d3, .own (.lst Y)] (RtA [] fun _ d ds => d = .str JS ∧ ds = []) := by
  intro Y jn
  simp -implicitDefEqProofs only [cz, iH, bp, aL, List.getElem?_cons_succ, List.getElem?_cons_zero, Option.bind_some, Option.map_some, pG, get_slot, jn, ai, cK, ck]
  exact ⟨trivial, trivial⟩
 have z4 : 4 < sizeLine := szL (by omega)
 rw [aE, bI]
 cases st with
 | done =>
  have hd1 : d1 = .bl true := by injection hd with a _; exact a.symm
  have T : bZ (af 4) [.imm (.int (n : Nat)), .imm RD, .imm SA, .imm SB, .imm d1, .imm d2, .imm d3, .own (.lst X)] = some (true, [.imm (.int (n : Nat)), .imm RD, .imm SA, .imm SB, .imm d1, .imm d2, .imm d3, .own (.lst X)]) := by
   rw [hd1]; rfl
  have A : c4 [.imm (.int (n : Nat)), .imm RD, .imm SA, .imm SB, .imm d1, .imm d2, .imm d3, .own (.lst X)] 7 = some X := rfl
  rw [T, ai, if_pos rfl, sv, A, ai, bp, ai, A, ai]
  refine ⟨by rw [hXl]; exact z4, ?_⟩
  rw [ay]
  exact fin _ hjX
 | waits =>
  have hd1 : d1 = .bl false := by injection hd with a _; exact a.symm
  have hd2 : d2 = .non := by injection hd with _ b; injection b with a _; exact a.symm
  have T : bZ (af 4) [.imm (.int (n : Nat)), .imm RD, .imm SA, .imm SB, .imm d1, .imm d2, .imm d3, .own (.lst X)] = some (false, [.imm (.int (n : Nat)), .imm RD, .imm SA, .imm SB, .imm d1, .imm d2, .imm d3, .own (.lst X)]) := by
   rw [hd1]; rfl
  have T2 : aq (ae (dIs false) (af 5) (aa (mC .non))) [.imm (.int (n : Nat)), .imm RD, .imm SA, .imm SB, .imm d1, .imm d2, .imm d3, .own (.lst X)] = some (true, [.imm (.int (n : Nat)), .imm RD, .imm SA, .imm SB, .imm d1, .imm d2, .imm d3, .own (.lst X)]) := by
   rw [hd2]; rfl
  have A : c4 [.imm (.int (n : Nat)), .imm RD, .imm SA, .imm SB, .imm d1, .imm d2, .imm d3, .own (.lst X)] 7 = some X := rfl
  rw [T, ai, if_neg (by simp), bI, T2, ai, if_pos rfl, sv, A, ai, bp, ai, A, ai]
  refine ⟨by rw [hXl]; exact z4, ?_⟩
  rw [ay]
  exact fin _ hjX
 | has m b =>
  have hd1 : d1 = .bl false := by injection hd with a _; exact a.symm
  have hd2 : d2 = .int (m : Nat) := by injection hd with _ b; injection b with a _; exact a.symm
  have hd3 : d3 = .bl b := by injection hd with _ b; injection b with _ c; injection c with a _; exact a.symm
  have sm := gZ (show m < 1000000 from hst)
  have T : bZ (af 4) [.imm (.int (n : Nat)), .imm RD, .imm SA, .imm SB, .imm d1, .imm d2, .imm d3, .own (.lst X)] = some (false, [.imm (.int (n : Nat)), .imm RD, .imm SA, .imm SB, .imm d1, .imm d2, .imm d3, .own (.lst X)]) := by
   rw [hd1]; rfl
  have T2 : aq (ae (dIs false) (af 5) (aa (mC .non))) [.imm (.int (n : Nat)), .imm RD, .imm SA, .imm SB, .imm d1, .imm d2, .imm d3, .own (.lst X)] = some (false, [.imm (.int (n : Nat)), .imm RD, .imm SA, .imm SB, .imm d1, .imm d2, .imm d3, .own (.lst X)]) := by
   rw [hd2]; rfl
  have C : b8 (aj (mIf (bZ (af 6)) (mC (.str (tx LD))) (mC (.str (tx EM)))) (aj (mBi dF (aM (af 5) aY)) aN)) [.imm (.int (n : Nat)), .imm RD, .imm SA, .imm SB, .imm d1, .imm d2, .imm d3, .own (.lst X)] = some (.lst (sW (stW (.has m b))), [.imm (.int (n : Nat)), .imm RD, .imm SA, .imm SB, .imm d1, .imm d2, .imm d3, .own (.lst X)]) := by
   rw [hd2, hd3, vY]
   unfold mIf
   cases b <;> simp -implicitDefEqProofs [sm] <;> rfl
  rw [T, ai, if_neg (by simp), bI, T2, ai, if_neg (by simp)]
  refine sj (ys := X) (xs := X) rfl C rfl (by rw [hXl]; show 4 + 2 ≤ 10000; omega) ?_
  rw [ay]
  exact fin _ hjX
end Law
namespace Law
open PySem L2 Q
theorem eR (c m : Nat) : ∀ L : List (List Nat), (∀ w ∈ L, w.length ≤ m) → (aB c L).length ≤ L.length * (m + 1)
 | [], _ => Nat.zero_le _
 | [a], h => by
  have := h a (by simp)
  show a.length ≤ 1 * (m + 1)
  omega
 | a :: b :: r, h => by
  have h1 := h a (by simp)
  have h2 := eR c m (b :: r) fun w hw => h w (List.mem_cons_of_mem _ hw)
  show (a ++ c :: aB c (b :: r)).length ≤ _
  simp only [List.length_append, List.length_cons] at h2 ⊢
  have e : (r.length + 1 + 1) * (m + 1) = (r.length + 1) * (m + 1) + (m + 1) := by rw [Nat.add_mul (r.length + 1) 1]; omega
  omega
theorem qQ {A : Type} {N : List Str} {mf : MS} {f : A → D} {g : Nat → A → List Nat} {L : List A} (hL : L.length ≤ 100) (hcall : ∀ i a, L[i]? = some a → res N mf [.imm (.int (i : Nat)), .imm (f a)] [] = some (.str (tx (g i a)), [])) {i : Nat} {s0 s1 s2 : Sl}
  (hI : iEn (aj (au i) aN) [s0, s1, s2, .un, .un] = some (fC 0 (L.map f), [s0, s1, s2, .un, .un])) :
  mLc [3, 4] (iEn (aj (au i) aN)) (gT 2 (aT (gN 3) (aT (gN 4) dk))) cZ (ak N 2 mf (aC (au 3) (aC (au 4) aA))) [s0, s1, s2, .un, .un] = some (.lst (sW (L.mapIdx g)), [s0, s1, s2, .un, .un]) := by
 obtain ⟨acc, e2, h1, ⟨s, t, rfl⟩, h3⟩ := l4 (vs := [3, 4]) (mi := iEn (aj (au i) aN)) (gf := gT 2 (aT (gN 3) (aT (gN 4) dk))) (mt := cZ) (me := ak N 2 mf (aC (au 3) (aC (au 4) aA))) (env := [s0, s1, s2, .un, .un]) (e0 := [s0, s1, s2, .un, .un]) (ds := fC 0 (L.map f)) hI rfl
  (by rw [fh, List.length_map]; omega) (fun e => ∃ s t, e = [s0, s1, s2, s, t]) (fun k acc => acc = sW ((L.mapIdx g).take k)) ⟨_, _, rfl⟩ (by simp) (by
   rintro j d e acc hd ⟨s, t, rfl⟩ rfl
   obtain ⟨d', hd', rfl⟩ := ja _ _ _ _ hd
   rw [List.getElem?_map] at hd'
   obtain ⟨a, ha, rfl⟩ := Option.map_eq_some_iff.mp hd'
   have hc := hcall j a ha
   rw [Nat.zero_add]
   refine ⟨[s0, s1, s2, .imm (.int (j : Nat)), .imm (f a)], true, [s0, s1, s2, .imm (.int (j : Nat)), .imm (f a)], by simp -implicitDefEqProofs [bY], rfl, fun _ => ⟨.str (tx (g j a)), [s0, s1, s2, .imm (.int (j : Nat)), .imm (f a)], ?_, ⟨_, _, rfl⟩, ?_⟩, fun z => by cases z⟩
   ·generalize f a = fa at hc ⊢
    generalize tx (g j a) = qt at hc ⊢
    simp -implicitDefEqProofs [cU, hc]
   ·rw [List.take_add_one, List.getElem?_mapIdx, ha]; simp)
 rw [fh, List.length_map, ← List.length_mapIdx (f := g), List.take_length] at h3
 have hbk : cW [s0, s1, s2, .un, .un] (bY [s0, s1, s2, s, t] [3, 4]) [3, 4] = [s0, s1, s2, .un, .un] := by simp -implicitDefEqProofs [cW, bY]
 rw [h1, hbk, h3]
def bt (R : List Rob) : List (List Nat) := R.mapIdx fun i r => aB 32 (dh i r)
def bz (O : List Ord) : List (List Nat) := O.mapIdx fun i o => aB 32 (df i o)
def rL (R : List Rob) (O : List Ord) : Str := tx (aB 10 (bt R ++ bz O))
structure Rep (R : List Rob) (O : List Ord) : Prop where
 rl : R.length ≤ 10
 ol : O.length ≤ 10
 r : ∀ x ∈ R, Rok x
 o : ∀ x ∈ O, Ook x
theorem vp {R : List Rob} {O : List Ord} (h : Rep R O) : ∀ w ∈ bt R ++ bz O, w.length ≤ 2000 := by
 intro w hw
 have h1 := h.rl
 have h2 := h.ol
 rcases List.mem_append.mp hw with hw | hw
 ·obtain ⟨i, hi, rfl⟩ := List.mem_mapIdx.mp hw
  obtain ⟨a, b⟩ := j7 (n := i) (r := R[i]) (by omega) (h.r _ (List.getElem_mem hi))
  have := eR 32 13 _ b
  omega
 ·obtain ⟨i, hi, rfl⟩ := List.mem_mapIdx.mp hw
  obtain ⟨a, b⟩ := jV (n := i) (o := O[i]) (by omega) (h.o _ (List.getElem_mem hi))
  have := eR 32 13 _ b
  omega
theorem uF {R : List Rob} {O : List Ord} (h : Rep R O) : res ik jh [.imm (.lst (R.map di)), .imm (.lst (O.map dm))] [] = some (.str (rL R O), []) := by
 refine cg ?_
 unfold jh
 have e8 : ("\n" : Str) = ⟨#[10]⟩ := rfl
 rw [e8]
 have h1 := h.rl
 have h2 := h.ol
 have l1 : (bt R).length = R.length := List.length_mapIdx
 have l2 : (bz O).length = O.length := List.length_mapIdx
 have jn := jB (c := 10) (ws := bt R ++ bz O) (by rw [List.length_append]; omega) (vp h)
 have hT : rL R O = tx (aB 10 (bt R ++ bz O)) := rfl
 rw [← hT] at jn
 generalize rL R O = JS at jn ⊢
 obtain ⟨RD, hRD⟩ : ∃ RD, RD = R.map di := ⟨_, rfl⟩
 obtain ⟨OD, hOD⟩ : ∃ OD, OD = O.map dm := ⟨_, rfl⟩
 rw [← hRD, ← hOD]
 have A1 := qQ (N := kb) (mf := lL) (f := di) (g := fun i r => aB 32 (dh i r)) (L := R) (by omega) (fun i a ha => uQ i a (by have := (List.getElem?_eq_some_iff.mp ha).1; omega) (h.r a (List.mem_of_getElem? ha))) (i := 0) (s0 := .imm (.lst RD)) (s1 := .imm (.lst OD)) (s2 := .un) (by rw [← hRD]; rfl)
 have A2 : ∀ X : List D, mLc [3, 4] (iEn (aj (au 1) aN)) (gT 2 (aT (gN 3) (aT (gN 4) dk))) cZ (ak j8 2 jW (aC (au 3) (aC (au 4) aA))) [.imm (.lst RD), .imm (.lst OD), .own (.lst X), .un, .un] = some (.lst (sW (bz O)), [.imm (.lst RD), .imm (.lst OD), .own (.lst X), .un, .un]) := fun X =>
  qQ (N := j8) (mf := jW) (f := dm) (g := fun i r => aB 32 (df i r)) (L := O) (by omega) (fun i a ha => vk i a (by have := (List.getElem?_eq_some_iff.mp ha).1; omega) (h.o a (List.mem_of_getElem? ha))) (i := 1) (s0 := .imm (.lst RD)) (s1 := .imm (.lst OD)) (s2 := .own (.lst X)) (by rw [← hOD]; rfl)
 change mLc _ _ _ _ _ _ = some (.lst (sW (bt R)), _) at A1
 show W _ [.imm (.lst RD), .imm (.lst OD), .un, .un, .un] _
 rw [aE, fK, A1, ai]
 refine ⟨by show 2 < 5; decide, ?_⟩
 rw [ay]
 have hA : sW (bt R ++ bz O) = sW (bt R) ++ sW (bz O) := List.map_append
 rw [hA] at jn
 have zl : (sW (bt R)).length + (sW (bz O)).length ≤ sizeLine := szS (by rw [List.length_map, List.length_map]; omega)
 obtain ⟨X, hX⟩ : ∃ X, X = sW (bt R) := ⟨_, rfl⟩
 obtain ⟨Y, hY⟩ : ∃ Y, Y = sW (bz O) := ⟨_, rfl⟩
 have A3 := A2 X
 rw [← hX, ← hY] at jn zl
 rw [← hY] at A3
 rw [← hX]
 show W _ [.imm (.lst RD), .imm (.lst OD), .own (.lst X), .un, .un] _
 simp -implicitDefEqProofs only [cz, iH, bp, aW, aL, aP, List.getElem?_cons_succ, List.getElem?_cons_zero, Option.bind_some, Option.map_some, pG, get_slot, aO, A3, jx, zl, if_true, jn, ai, cK, ck]
 exact ⟨trivial, trivial⟩
end Law
namespace Law
open PySem L2 Q
theorem ui {n : Nat} (h : n ≤ 50000) : n ≤ sizeLine := Nat.le_trans h (by decide)
abbrev Hi (w : List Nat) : Prop := ∀ c ∈ w, 33 ≤ c
theorem i6 (n : Nat) : Hi (fg n) := fun c hc => by have := mX hc; omega
theorem sN (p : Option (Nat × Nat)) : Hi (plW p) := by
 cases p with
 | none => decide
 | some q =>
  intro c hc
  unfold plW at hc
  rcases List.mem_append.mp hc with h | h
  ·exact i6 _ c h
  ·rcases List.mem_cons.mp h with rfl | h
   ·decide
   ·exact i6 _ c h
theorem uc (b : Bool) : Hi (ldW b) := by cases b <;> decide
theorem yV (b : Bool) : Hi (brW b) := by cases b <;> decide
theorem rm (n : Nat) (r : Rob) : ∀ w ∈ dh n r, Hi w := by
 intro w hw
 unfold dh eW at hw
 rcases List.mem_append.mp hw with hw | hw
 ·simp only [List.mem_cons, List.not_mem_nil, or_false] at hw
  rcases hw with rfl | rfl | rfl | rfl
  ·decide
  ·exact i6 n
  ·exact sN _
  ·exact yV _
 ·rcases List.mem_append.mp hw with hw | hw
  ·cases ho : r.er.order with
   | none => rw [ho] at hw; cases hw
   | some m =>
    rw [ho] at hw
    rcases List.mem_cons.mp hw with rfl | hw
    ·exact uc _
    ·have : w = fg m := by simpa using hw
     rw [this]; exact i6 m
  ·unfold dO at hw
   cases hps : r.er.way with
   | nil => rw [hps] at hw; cases hw
   | cons p ps =>
    rw [hps] at hw
    rcases List.mem_cons.mp hw with rfl | hw
    ·decide
    ·obtain ⟨q, hq, rfl⟩ := List.mem_map.mp hw
     exact sN _
theorem qz (n : Nat) (o : Ord) : ∀ w ∈ df n o, Hi w := by
 intro w hw
 unfold df at hw
 rcases List.mem_append.mp hw with hw | hw
 ·simp only [List.mem_cons, List.not_mem_nil, or_false] at hw
  rcases hw with rfl | rfl | rfl | rfl
  ·decide
  ·exact i6 n
  ·intro c hc
   have : c = 65 + o.s := by simpa using hc
   omega
  ·intro c hc
   have : c = 65 + o.g := by simpa using hc
   omega
 ·cases h : o.st with
  | done =>
   rw [h] at hw
   have : w = DN := by simpa [stW] using hw
   rw [this]
   decide
  | waits =>
   rw [h] at hw
   have : w = WT := by simpa [stW] using hw
   rw [this]
   decide
  | has m b =>
   rw [h] at hw
   rcases List.mem_cons.mp hw with rfl | hw
   ·exact uc b
   ·have : w = fg m := by simpa using hw
    rw [this]; exact i6 m
theorem pE : ∀ L : List (List Nat), (∀ w ∈ L, Hi w) → ∀ c ∈ aB 32 L, 32 ≤ c
 | [], _, c, hc => by cases hc
 | [a], h, c, hc => by
  have hc : c ∈ a := hc
  have := h a (by simp) c hc
  omega
 | a :: b :: r, h, c, hc => by
  have hc : c ∈ a ++ 32 :: aB 32 (b :: r) := hc
  rcases List.mem_append.mp hc with hc | hc
  ·have := h a (by simp) c hc
   omega
  ·rcases List.mem_cons.mp hc with rfl | hc
   ·omega
   ·exact pE (b :: r) (fun w hw => h w (List.mem_cons_of_mem _ hw)) c hc
theorem spl {c : Nat} (hc : c < 256) {ws : List (List Nat)} (h0 : ws ≠ []) (h1 : ∀ a ∈ ws, c ∉ a) (hl : (aB c ws).length ≤ 49000) : cO (tx (aB c ws)) ⟨#[c]⟩ = some (.lst (sW ws)) := by
 have sp := pj (tx (aB c ws)) hc
 rw [kd, split_join c ws h0 h1] at sp
 have z : (tx (aB c ws)).length + 2 ≤ sizeLine := ui (by rw [dA]; omega)
 have z1 : ((⟨#[c]⟩ : Str).length == 0) = false := rfl
 unfold cO
 rw [if_pos ⟨z1, z⟩, sp, List.map_map]
 rfl
end Law
namespace Law
open PySem L2 Q
theorem jE {N : List Str} {mf : MS} {P : D → Prop} (h : ∀ b, bP b → W mf ([.io 0 b] ++ List.replicate (N.length - 1) .un) (ft 0 fun md d x => P d ∧ bP x)) {env : En} {i : Nat} {b : D} (hb : bP b) (hr : env[i]?.bind Sl.own? = some b) :
  ∃ d x, P d ∧ bP x ∧ ak N 1 mf (cIo i aA) env = some (d, b7 env i x) := by
 obtain ⟨md, d, x, ⟨hp, hx⟩, h3, _⟩ := qH (N := N) (np := 1) (mf := mf) (a := cIo i aA) (env := env) (e1 := env) (as := [.io i]) (ss := [.io 0 b]) (i := i) (j := 0)
  (by simp -implicitDefEqProofs [hr]) (by simp -implicitDefEqProofs [bG]) (by simp -implicitDefEqProofs [eN]) (by simp -implicitDefEqProofs [bO]) rfl (by simp -implicitDefEqProofs [hr]) (h b hb)
 exact ⟨d, x, hp, hx, h3⟩
theorem pM (b : D) (hb : bP b) : W ij [.io 0 b] (ft 0 fun md d x => (∃ p, Pok p ∧ d = pD p) ∧ bP x) := by
 unfold ij
 obtain ⟨v1, x1, a1, a2, a3⟩ := cw (env := [.io 0 b]) (i := 0) (a := mC (.int 16)) (many := 16) hb rfl rfl (by omega)
 obtain ⟨v2, x2, b1, b2, b3⟩ := cw (env := [.io 0 x1]) (i := 0) (a := mC (.int 16)) (many := 16) a2 rfl rfl (by omega)
 have p1 : b7 [.io 0 b] 0 x1 = [.io 0 x1] := rfl
 have p2 : b7 [.io 0 x1] 0 x2 = [.io 0 x2] := rfl
 rw [p1] at a3
 rw [p2] at b3
 have t := hU (a := aj (ak bK 2 bH (cIo 0 (aC (mC (.int 16)) aA))) (aj (ak bK 2 bH (cIo 0 (aC (mC (.int 16)) aA))) aN)) (env := [.io 0 b]) (e := [.io 0 x2]) (xs := [.int v1, .int v2]) (by simp -implicitDefEqProofs [a3, b3]) (by simp)
 rw [cz, t, ai]
 exact ⟨x2, rfl, ⟨(v1, v2), ⟨by show v1 < 16; omega, by show v2 < 16; omega⟩, rfl⟩, b2⟩
theorem oI (b : D) (hb : bP b) : W fT [.io 0 b, .un] (ft 0 fun md d x => (∃ n : Nat, n < 1000000 ∧ d = .int n) ∧ bP x) := by
 unfold fT
 obtain ⟨v1, x1, a1, a2, a3⟩ := cw (env := [.io 0 b, .un]) (i := 0) (a := mC (.int 3)) (many := 3) hb rfl rfl (by omega)
 rw [aE, bQ, a3, ai]
 refine ⟨by show 1 < 2; decide, ?_⟩
 rw [ay]
 show W _ [.io 0 x1, .imm (.int (v1 : Nat))] _
 have T : ∀ j : Int, aq (ae (aG false) (af 1) (aa (mC (.int j)))) [.io 0 x1, .imm (.int (v1 : Nat))] = some (decide ((v1 : Int) = j), [.io 0 x1, .imm (.int (v1 : Nat))]) := fun j => by
  by_cases h : (v1 : Int) = j
  ·simp -implicitDefEqProofs [h]
  ·simp -implicitDefEqProofs [h]
 rw [aE, bI, T, ai]
 by_cases h0 : (v1 : Int) = 0
 ·rw [if_pos (by simpa using h0)]
  obtain ⟨v, x, b1, b2, b3⟩ := cw (env := [.io 0 x1, .imm (.int (v1 : Nat))]) (i := 0) (a := mC (.int 10)) (many := 10) a2 rfl rfl (by omega)
  rw [cz, b3, ai, dD]
  exact ⟨x, rfl, ⟨v, by omega, rfl⟩, b2⟩
 ·rw [if_neg (by simpa using h0), bA, ay, aE, bI, T, ai]
  by_cases h1 : (v1 : Int) = 1
  ·rw [if_pos (by simpa using h1)]
   obtain ⟨v, x, b1, b2, b3⟩ := cw (env := [.io 0 x1, .imm (.int (v1 : Nat))]) (i := 0) (a := mC (.int 1000)) (many := 1000) a2 rfl rfl (by omega)
   obtain ⟨u, y, c1, c2, c3⟩ := cw (env := [.io 0 x, .imm (.int (v1 : Nat))]) (i := 0) (a := mC (.int 1000)) (many := 1000) b2 rfl rfl (by omega)
   have p1 : b7 [.io 0 x1, .imm (.int (v1 : Nat))] 0 x = [.io 0 x, .imm (.int (v1 : Nat))] := rfl
   have p2 : b7 [.io 0 x, .imm (.int (v1 : Nat))] 0 y = [.io 0 y, .imm (.int (v1 : Nat))] := rfl
   rw [p1] at b3
   rw [p2] at c3
   have m : dS (.int (v : Nat)) (.int 1000) = some (.int ((v : Int) * 1000)) := mul_right (by decide) (by decide)
   have DD : ae aK (aa (ae dS (aa (ak bK 2 bH (cIo 0 (aC (mC (.int 1000)) aA)))) (aa (mC (.int 1000))))) (aa (ak bK 2 bH (cIo 0 (aC (mC (.int 1000)) aA)))) [.io 0 x1, .imm (.int (v1 : Nat))] = some (.int ((v : Int) * 1000 + (u : Int)), [.io 0 y, .imm (.int (v1 : Nat))]) := by
    simp -implicitDefEqProofs [b3, c3, m]
   have e : ((v : Int) * 1000 + (u : Int)) = ((v * 1000 + u : Nat) : Int) := by omega
   rw [cz, DD, ai, dD, e]
   exact ⟨y, rfl, ⟨v * 1000 + u, by omega, rfl⟩, c2⟩
  ·rw [if_neg (by simpa using h1), bA, ay]
   obtain ⟨v, x, b1, b2, b3⟩ := cw (env := [.io 0 x1, .imm (.int (v1 : Nat))]) (i := 0) (a := mC (.int 1000)) (many := 1000) a2 rfl rfl (by omega)
   rw [cz, b3, ai]
   exact ⟨x, rfl, ⟨v, by omega, rfl⟩, b2⟩
theorem abL : ∀ n < 8, ("ABCDEFGH" : Str).cps.toList[n]? = some (65 + n) := by decide +kernel
theorem AS {n : Nat} (h : n < 8) : dIx (.str "ABCDEFGH") (.int (n : Nat)) = some (.str (tx [65 + n])) := by
 have h1 := abL n h
 have hlt : n < ("ABCDEFGH" : Str).cps.toList.length := (List.getElem?_eq_some_iff.mp h1).1
 have := oO (z := "ABCDEFGH") (n := n) (szS (by decide +kernel)) hlt
 rw [List.getElem?_eq_getElem hlt] at h1
 rw [Option.some.inj h1] at this
 exact this
theorem vf (b : D) (hb : bP b) : W kK [.io 0 b, .un, .un, .un] (ft 0 fun md d x => (∃ o, Ook o ∧ d = dm o) ∧ bP x) := by
 unfold kK
 have ab := fun n (h : n < 8) => AS h
 obtain ⟨AB, hAB⟩ : ∃ S : Str, ("ABCDEFGH" : Str) = S := ⟨_, rfl⟩
 rw [hAB] at ab
 rw [hAB]
 obtain ⟨v1, x1, a1, a2, a3⟩ := cw (env := [.io 0 b, .un, .un, .un]) (i := 0) (a := mC (.int 4)) (many := 4) hb rfl rfl (by omega)
 rw [aE, bQ, a3, ai]
 refine ⟨by show 1 < 4; decide, ?_⟩
 rw [ay, aE, bQ]
 obtain ⟨s, x2, b1, b2, b3⟩ := cw (env := [.io 0 x1, .imm (.int (v1 : Nat)), .un, .un]) (i := 0) (a := mC (.int 8)) (many := 8) a2 rfl rfl (by omega)
 have bs := ab s (by omega)
 have D2 : ae dIx (aa (mC (.str AB))) (aa (ak bK 2 bH (cIo 0 (aC (mC (.int 8)) aA)))) [.io 0 x1, .imm (.int (v1 : Nat)), .un, .un] = some (.str (tx [65 + s]), [.io 0 x2, .imm (.int (v1 : Nat)), .un, .un]) := by simp -implicitDefEqProofs [b3, bs]
 show Gt (ae _ _ _ [.io 0 x1, .imm (.int (v1 : Nat)), .un, .un]) _
 rw [D2, ai]
 refine ⟨by show 2 < 4; decide, ?_⟩
 obtain ⟨SA, hSA⟩ : ∃ SA, SA = D.str (tx [65 + s]) := ⟨_, rfl⟩
 rw [← hSA, ay, aE, bQ]
 obtain ⟨g, x3, c1, c2, c3⟩ := cw (env := [.io 0 x2, .imm (.int (v1 : Nat)), .imm SA, .un]) (i := 0) (a := mC (.int 8)) (many := 8) b2 rfl rfl (by omega)
 have bg := ab g (by omega)
 have D3 : ae dIx (aa (mC (.str AB))) (aa (ak bK 2 bH (cIo 0 (aC (mC (.int 8)) aA)))) [.io 0 x2, .imm (.int (v1 : Nat)), .imm SA, .un] = some (.str (tx [65 + g]), [.io 0 x3, .imm (.int (v1 : Nat)), .imm SA, .un]) := by simp -implicitDefEqProofs [c3, bg]
 show Gt (ae _ _ _ [.io 0 x2, .imm (.int (v1 : Nat)), .imm SA, .un]) _
 rw [D3, ai]
 refine ⟨by show 3 < 4; decide, ?_⟩
 obtain ⟨SB, hSB⟩ : ∃ SB, SB = D.str (tx [65 + g]) := ⟨_, rfl⟩
 rw [← hSB, ay]
 show W _ [.io 0 x3, .imm (.int (v1 : Nat)), .imm SA, .imm SB] _
 have T : aq (ae dLt (af 1) (aa (mC (.int 2)))) [.io 0 x3, .imm (.int (v1 : Nat)), .imm SA, .imm SB] = some (decide ((v1 : Int) < 2), [.io 0 x3, .imm (.int (v1 : Nat)), .imm SA, .imm SB]) := by
  by_cases h : (v1 : Int) < 2
  ·simp -implicitDefEqProofs [h]
  ·simp -implicitDefEqProofs [h]
 have EQ : ∀ j : Int, ∀ x : D, ae (aG false) (af 1) (aa (mC (.int j))) [.io 0 x, .imm (.int (v1 : Nat)), .imm SA, .imm SB] = some (.bl (decide ((v1 : Int) = j)), [.io 0 x, .imm (.int (v1 : Nat)), .imm SA, .imm SB]) := fun j x => by
  simp -implicitDefEqProofs
 rw [aE, bI, T, ai]
 by_cases h2 : (v1 : Int) < 2
 ·rw [if_pos (by simpa using h2)]
  have t := hU (a := aj (au 2) (aj (au 3) (aj (ae (aG false) (af 1) (aa (mC (.int 0)))) (aj (mC .non) (aj (mC (.bl false)) aN))))) (env := [.io 0 x3, .imm (.int (v1 : Nat)), .imm SA, .imm SB]) (e := [.io 0 x3, .imm (.int (v1 : Nat)), .imm SA, .imm SB]) (xs := [SA, SB, .bl (decide ((v1 : Int) = 0)), .non, .bl false]) (by simp -implicitDefEqProofs) (by simp)
  rw [cz, t, ai, dD]
  by_cases h0 : (v1 : Int) = 0
  ·exact ⟨x3, rfl, ⟨⟨s, g, .done⟩, ⟨by show s < 8; omega, by show g < 8; omega, trivial⟩, by rw [hSA, hSB, decide_eq_true h0]; rfl⟩, c2⟩
  ·exact ⟨x3, rfl, ⟨⟨s, g, .waits⟩, ⟨by show s < 8; omega, by show g < 8; omega, trivial⟩, by rw [hSA, hSB, decide_eq_false h0]; rfl⟩, c2⟩
 ·rw [if_neg (by simpa using h2), bA, ay]
  obtain ⟨d, x4, ⟨n, hn, rfl⟩, d2, d3⟩ := jE (N := gb) (mf := fT) oI (env := [.io 0 x3, .imm (.int (v1 : Nat)), .imm SA, .imm SB]) (i := 0) c2 rfl
  have p1 : b7 [.io 0 x3, .imm (.int (v1 : Nat)), .imm SA, .imm SB] 0 x4 = [.io 0 x4, .imm (.int (v1 : Nat)), .imm SA, .imm SB] := rfl
  rw [p1] at d3
  have E2 := EQ 2 x4
  have t := hU (a := aj (au 2) (aj (au 3) (aj (mC (.bl false)) (aj (ak gb 1 fT (cIo 0 aA)) (aj (ae (aG false) (af 1) (aa (mC (.int 2)))) aN))))) (env := [.io 0 x3, .imm (.int (v1 : Nat)), .imm SA, .imm SB]) (e := [.io 0 x4, .imm (.int (v1 : Nat)), .imm SA, .imm SB]) (xs := [SA, SB, .bl false, .int (n : Nat), .bl (decide ((v1 : Int) = 2))]) (by simp -implicitDefEqProofs [d3]) (by simp)
  rw [cz, t, ai]
  exact ⟨x4, rfl, ⟨⟨s, g, .has n (decide ((v1 : Int) = 2))⟩, ⟨by show s < 8; omega, by show g < 8; omega, hn⟩, by rw [hSA, hSB]; rfl⟩, d2⟩
end Law
namespace Law
open PySem L2 Q
abbrev QR : Fl → Prop := ft 0 fun md d x => (∃ r, Rok r ∧ d = di r) ∧ bP x
theorem u7 {b : D} {k : Nat} {pl : Option (Nat × Nat)} {w : List (Nat × Nat)} {sw s6 : Sl} {o : Option Nat} {ld : Bool} (hb : bP b) (hp : ∀ q, pl = some q → Pok q) (hw : ∀ p ∈ w, Pok p) (hl : w.length ≤ 100) (hs : sw = .imm (.lst (w.map pD)) ∨ sw = .own (.lst (w.map pD))) (ho : ∀ n, o = some n → n < 1000000) (hld : o = none → ld = false) :
  W (be (cN (aj (au 2) (aj (ae (aG false) (aa (ak bK 2 bH (cIo 0 (aC (mC (.int 2)) aA)))) (aa (mC (.int 0)))) (aj (au 4) (aj (au 5) (aj (au 3) aN))))))) [.io 0 b, .imm (.int (k : Nat)), .imm (bR pl), sw, .imm (orD o), .imm (.bl ld), s6] QR := by
 obtain ⟨v, x, a1, a2, a3⟩ := cw (env := [.io 0 b, .imm (.int (k : Nat)), .imm (bR pl), sw, .imm (orD o), .imm (.bl ld), s6]) (i := 0) (a := mC (.int 2)) (many := 2) hb rfl rfl (by omega)
 have p1 : b7 [.io 0 b, .imm (.int (k : Nat)), .imm (bR pl), sw, .imm (orD o), .imm (.bl ld), s6] 0 x = [.io 0 x, .imm (.int (k : Nat)), .imm (bR pl), sw, .imm (orD o), .imm (.bl ld), s6] := rfl
 rw [p1] at a3
 obtain ⟨WD, hWD⟩ : ∃ WD, WD = w.map pD := ⟨_, rfl⟩
 obtain ⟨PD, hPD⟩ : ∃ PD, PD = bR pl := ⟨_, rfl⟩
 obtain ⟨OD, hOD⟩ : ∃ OD, OD = orD o := ⟨_, rfl⟩
 rw [← hWD] at hs
 rw [← hPD, ← hOD] at a3 ⊢
 have t := hU (a := aj (au 2) (aj (ae (aG false) (aa (ak bK 2 bH (cIo 0 (aC (mC (.int 2)) aA)))) (aa (mC (.int 0)))) (aj (au 4) (aj (au 5) (aj (au 3) aN))))) (env := [.io 0 b, .imm (.int (k : Nat)), .imm PD, sw, .imm OD, .imm (.bl ld), s6]) (e := [.io 0 x, .imm (.int (k : Nat)), .imm PD, .imm (.lst WD), .imm OD, .imm (.bl ld), s6]) (xs := [PD, .bl (decide ((v : Int) = 0)), OD, .bl ld, .lst WD]) (by rcases hs with rfl | rfl <;> simp -implicitDefEqProofs [a3]) (by simp)
 rw [cz, t, ai]
 exact ⟨x, rfl, ⟨⟨pl, decide ((v : Int) = 0), ⟨o, ld, w⟩⟩, ⟨hp, ⟨ho, hld, hw, hl⟩⟩, by rw [hPD, hOD, hWD]; rfl⟩, a2⟩
theorem xY {b : D} {k : Nat} {pl : Option (Nat × Nat)} {w : List (Nat × Nat)} {sw s4 s5 s6 : Sl} (hb : bP b) (hp : ∀ q, pl = some q → Pok q) (hw : ∀ p ∈ w, Pok p) (hl : w.length ≤ 100) (hs : sw = .imm (.lst (w.map pD)) ∨ sw = .own (.lst (w.map pD))) :
  W (aH (bL 4 (mC .non))
  (aH (bL 5 (mC (.bl false)))
  (aH (bx (aq (ae (aG false) (aa (ak bK 2 bH (cIo 0 (aC (mC (.int 2)) aA)))) (aa (mC (.int 0)))))
  (aH (bL 4 (ak gb 1 fT (cIo 0 aA)))
  (bL 5 (ae (aG false) (aa (ak bK 2 bH (cIo 0 (aC (mC (.int 2)) aA)))) (aa (mC (.int 0))))))
  bC)
  (be (cN (aj (au 2) (aj (ae (aG false) (aa (ak bK 2 bH (cIo 0 (aC (mC (.int 2)) aA)))) (aa (mC (.int 0)))) (aj (au 4) (aj (au 5) (aj (au 3) aN)))))))))) [.io 0 b, .imm (.int (k : Nat)), .imm (bR pl), sw, s4, s5, s6] QR := by
 have L := fun (b : D) (o : Option Nat) (ld : Bool) (hb : bP b) => u7 (b := b) (k := k) (s6 := s6) (o := o) (ld := ld) hb hp hw hl hs
 obtain ⟨PD, hPD⟩ : ∃ PD, PD = bR pl := ⟨_, rfl⟩
 rw [← hPD] at L ⊢
 rw [aE, bQ, bp, ai]
 refine ⟨by show 4 < 7; decide, ?_⟩
 rw [ay, aE, bQ, bp, ai]
 refine ⟨by show 5 < 7; decide, ?_⟩
 rw [ay, aE]
 show W (bx _ _ _) [.io 0 b, .imm (.int (k : Nat)), .imm PD, sw, .imm .non, .imm (.bl false), s6] _
 obtain ⟨v, x, a1, a2, a3⟩ := cw (env := [.io 0 b, .imm (.int (k : Nat)), .imm PD, sw, .imm .non, .imm (.bl false), s6]) (i := 0) (a := mC (.int 2)) (many := 2) hb rfl rfl (by omega)
 have T : aq (ae (aG false) (aa (ak bK 2 bH (cIo 0 (aC (mC (.int 2)) aA)))) (aa (mC (.int 0)))) [.io 0 b, .imm (.int (k : Nat)), .imm PD, sw, .imm .non, .imm (.bl false), s6] = some (decide ((v : Int) = 0), [.io 0 x, .imm (.int (k : Nat)), .imm PD, sw, .imm .non, .imm (.bl false), s6]) := by
  by_cases h : (v : Int) = 0
  ·simp -implicitDefEqProofs [a3, h]
  ·simp -implicitDefEqProofs [a3, h]
 rw [bI, T, ai]
 by_cases h0 : (v : Int) = 0
 ·rw [if_pos (by simpa using h0)]
  obtain ⟨d, y, ⟨n, hn, rfl⟩, d2, d3⟩ := jE (N := gb) (mf := fT) oI (env := [.io 0 x, .imm (.int (k : Nat)), .imm PD, sw, .imm .non, .imm (.bl false), s6]) (i := 0) a2 rfl
  rw [aE, bQ, d3, ai]
  refine ⟨by show 4 < 7; decide, ?_⟩
  rw [ay, bQ]
  obtain ⟨u, z, c1, c2, c3⟩ := cw (env := [.io 0 y, .imm (.int (k : Nat)), .imm PD, sw, .imm (.int (n : Nat)), .imm (.bl false), s6]) (i := 0) (a := mC (.int 2)) (many := 2) d2 rfl rfl (by omega)
  have DD : ae (aG false) (aa (ak bK 2 bH (cIo 0 (aC (mC (.int 2)) aA)))) (aa (mC (.int 0))) [.io 0 y, .imm (.int (k : Nat)), .imm PD, sw, .imm (.int (n : Nat)), .imm (.bl false), s6] = some (.bl (decide ((u : Int) = 0)), [.io 0 z, .imm (.int (k : Nat)), .imm PD, sw, .imm (.int (n : Nat)), .imm (.bl false), s6]) := by
   simp -implicitDefEqProofs [c3]
  show Gt (ae _ _ _ [.io 0 y, .imm (.int (k : Nat)), .imm PD, sw, .imm (.int (n : Nat)), .imm (.bl false), s6]) _
  rw [DD, ai]
  refine ⟨by show 5 < 7; decide, ?_⟩
  rw [ay]
  exact L z (some n) (decide ((u : Int) = 0)) c2 (fun m e => by cases e; exact hn) (fun e => by cases e)
 ·rw [if_neg (by simpa using h0), bA, ay]
  exact L x none false a2 (fun m e => by cases e) (fun _ => rfl)
theorem u0 (b : D) (hb : bP b) : W lM [.io 0 b, .un, .un, .un, .un, .un, .un] QR := by
 unfold lM
 obtain ⟨k, x1, a1, a2, a3⟩ := cw (env := [.io 0 b, .un, .un, .un, .un, .un, .un]) (i := 0) (a := mC (.int 6)) (many := 6) hb rfl rfl (by omega)
 rw [aE, bQ, a3, ai]
 refine ⟨by show 1 < 7; decide, ?_⟩
 rw [ay, aE, bQ, bp, ai]
 refine ⟨by show 2 < 7; decide, ?_⟩
 rw [ay, aE, bQ, rQ, ai]
 refine ⟨by show 3 < 7; decide, ?_⟩
 rw [ay, aE]
 show W (bx _ _ _) [.io 0 x1, .imm (.int (k : Nat)), .imm (bR none), .imm (.lst []), .un, .un, .un] _
 have T : ∀ (j : Int) (b P : D), aq (ae dGt (af 1) (aa (mC (.int j)))) [.io 0 b, .imm (.int (k : Nat)), .imm P, .imm (.lst []), .un, .un, .un] = some (decide (j < (k : Int)), [.io 0 b, .imm (.int (k : Nat)), .imm P, .imm (.lst []), .un, .un, .un]) := fun j b P => by
  by_cases h : j < (k : Int)
  ·simp -implicitDefEqProofs [h]
  ·simp -implicitDefEqProofs [h]
 have way : ∀ (b : D) (pl : Option (Nat × Nat)), bP b → (∀ q, pl = some q → Pok q) → W (aH (bx (aq (ae dGt (af 1) (aa (mC (.int 1)))))
  (d8 3 (mLc [6] (iR1 (aj (ae aK (aa (mC (.int 1))) (aa (ak bK 2 bH (cIo 0 (aC (mC (.int 4)) aA))))) aN)) (gN 6) cZ (ak iU 1 ij (cIo 0 aA))))
  bC)
  (aH (bL 4 (mC .non))
  (aH (bL 5 (mC (.bl false)))
  (aH (bx (aq (ae (aG false) (aa (ak bK 2 bH (cIo 0 (aC (mC (.int 2)) aA)))) (aa (mC (.int 0)))))
  (aH (bL 4 (ak gb 1 fT (cIo 0 aA)))
  (bL 5 (ae (aG false) (aa (ak bK 2 bH (cIo 0 (aC (mC (.int 2)) aA)))) (aa (mC (.int 0))))))
  bC)
  (be (cN (aj (au 2) (aj (ae (aG false) (aa (ak bK 2 bH (cIo 0 (aC (mC (.int 2)) aA)))) (aa (mC (.int 0)))) (aj (au 4) (aj (au 5) (aj (au 3) aN))))))))))) [.io 0 b, .imm (.int (k : Nat)), .imm (bR pl), .imm (.lst []), .un, .un, .un] QR := by
  intro b pl hb hp
  have M := fun (b : D) (w : List (Nat × Nat)) (sw : Sl) (hb : bP b) => xY (b := b) (k := k) (w := w) (sw := sw) (s4 := .un) (s5 := .un) (s6 := .un) hb hp
  obtain ⟨PD, hPD⟩ : ∃ PD, PD = bR pl := ⟨_, rfl⟩
  rw [← hPD] at M ⊢
  rw [aE, bI, T, ai]
  by_cases h1 : (1 : Int) < (k : Int)
  ·rw [if_pos (by simpa using h1)]
   obtain ⟨v, x, c1, c2, c3⟩ := cw (env := [.io 0 b, .imm (.int (k : Nat)), .imm PD, .imm (.lst []), .un, .un, .un]) (i := 0) (a := mC (.int 4)) (many := 4) hb rfl rfl (by omega)
   have e : (1 : Int) + (v : Int) = ((v + 1 : Nat) : Int) := by omega
   have A : aj (ae aK (aa (mC (.int 1))) (aa (ak bK 2 bH (cIo 0 (aC (mC (.int 4)) aA))))) aN [.io 0 b, .imm (.int (k : Nat)), .imm PD, .imm (.lst []), .un, .un, .un] = some ([.int ((v + 1 : Nat) : Int)], [.io 0 x, .imm (.int (k : Nat)), .imm PD, .imm (.lst []), .un, .un, .un]) := by
    rw [← e]; simp -implicitDefEqProofs [c3]
   obtain ⟨acc, e2, g1, ⟨y, t, rfl, hy⟩, w, hw1, hw2, hw3⟩ := l4 (vs := [6]) (gf := gN 6) (mt := cZ) (me := ak iU 1 ij (cIo 0 aA)) (ds := ef 0 (v + 1)) (lE (n := v + 1) A (by omega)) rfl
    (by rw [iL]; omega) (fun e => ∃ b t, e = [.io 0 b, .imm (.int (k : Nat)), .imm PD, .imm (.lst []), .un, .un, t] ∧ bP b) (fun j acc => ∃ w : List (Nat × Nat), acc = w.map pD ∧ w.length = j ∧ ∀ p ∈ w, Pok p) ⟨x, _, rfl, c2⟩ ⟨[], rfl, rfl, fun p hp => by cases hp⟩ (by
     rintro i d e acc hd ⟨b, t, rfl, hb⟩ ⟨w, rfl, hw, hwp⟩
     obtain ⟨pd, z, ⟨p, hpo, rfl⟩, d2, d3⟩ := jE (N := iU) (mf := ij) pM (env := [.io 0 b, .imm (.int (k : Nat)), .imm PD, .imm (.lst []), .un, .un, .imm d]) (i := 0) hb rfl
     refine ⟨[.io 0 b, .imm (.int (k : Nat)), .imm PD, .imm (.lst []), .un, .un, .imm d], true, [.io 0 b, .imm (.int (k : Nat)), .imm PD, .imm (.lst []), .un, .un, .imm d], by simp -implicitDefEqProofs [bY], rfl, fun _ => ⟨pD p, _, d3, ⟨z, .imm d, rfl, d2⟩, w ++ [p], by simp, by simp; omega, fun q hq => ?_⟩, fun z => by cases z⟩
     rcases List.mem_append.mp hq with h | h
     ·exact hwp q h
     ·have : q = p := by simpa using h
      rw [this]; exact hpo)
   have hbk : cW [.io 0 x, .imm (.int (k : Nat)), .imm PD, .imm (.lst []), .un, .un, .un] (bY [.io 0 y, .imm (.int (k : Nat)), .imm PD, .imm (.lst []), .un, .un, t] [6]) [6] = [.io 0 y, .imm (.int (k : Nat)), .imm PD, .imm (.lst []), .un, .un, .un] := by simp -implicitDefEqProofs [cW, bY]
   rw [hbk, hw1] at g1
   rw [iL] at hw2
   rw [fK, g1, ai]
   refine ⟨by show 3 < 7; decide, ?_⟩
   rw [ay]
   exact M y w (.own (.lst (w.map pD))) hy hw3 (by omega) (.inr rfl)
  ·rw [if_neg (by simpa using h1), bA, ay]
   exact M b [] (.imm (.lst [])) hb (fun p hp => by cases hp) (by simp) (.inl rfl)
 rw [bI, T, ai]
 by_cases h0 : (0 : Int) < (k : Int)
 ·rw [if_pos (by simpa using h0)]
  obtain ⟨pd, z, ⟨p, hpo, rfl⟩, d2, d3⟩ := jE (N := iU) (mf := ij) pM (env := [.io 0 x1, .imm (.int (k : Nat)), .imm (bR none), .imm (.lst []), .un, .un, .un]) (i := 0) a2 rfl
  rw [bQ, d3, ai]
  refine ⟨by show 2 < 7; decide, ?_⟩
  rw [ay]
  exact way z (some p) d2 (fun q e => by cases e; exact hpo)
 ·rw [if_neg (by simpa using h0), bA, ay]
  exact way x1 none a2 (fun q e => by cases e)
end Law
namespace Law
open PySem L2 Q
theorem qB {N : List Str} {mf : MS} {A : Type} {f : A → D} {OK : A → Prop} (h : ∀ b, bP b → W mf ([.io 0 b] ++ List.replicate (N.length - 1) .un) (ft 0 fun md d x => (∃ a, OK a ∧ d = f a) ∧ bP x)) {b : D} {s1 s2 : Sl} (hb : bP b) :
  ∃ (y : D) (L : List A), bP y ∧ L.length ≤ 5 ∧ (∀ a ∈ L, OK a) ∧ mLc [3] (iR1 (aj (ak bK 2 bH (cIo 0 (aC (mC (.int 6)) aA))) aN)) (gN 3) cZ (ak N 1 mf (cIo 0 aA)) [.io 0 b, s1, s2, .un] = some (.lst (L.map f), [.io 0 y, s1, s2, .un]) := by
 obtain ⟨v, x, c1, c2, c3⟩ := cw (env := [.io 0 b, s1, s2, .un]) (i := 0) (a := mC (.int 6)) (many := 6) hb rfl rfl (by omega)
 have A1 : aj (ak bK 2 bH (cIo 0 (aC (mC (.int 6)) aA))) aN [.io 0 b, s1, s2, .un] = some ([.int (v : Nat)], [.io 0 x, s1, s2, .un]) := by
  simp -implicitDefEqProofs [c3]
 obtain ⟨acc, e2, g1, ⟨y, t, rfl, hy⟩, w, hw1, hw2, hw3⟩ := l4 (vs := [3]) (gf := gN 3) (mt := cZ) (me := ak N 1 mf (cIo 0 aA)) (ds := ef 0 v) (lE (n := v) A1 (by omega)) rfl
  (by rw [iL]; omega) (fun e => ∃ b t, e = [.io 0 b, s1, s2, t] ∧ bP b) (fun j acc => ∃ w : List A, acc = w.map f ∧ w.length = j ∧ ∀ p ∈ w, OK p) ⟨x, _, rfl, c2⟩ ⟨[], rfl, rfl, fun p hp => by cases hp⟩ (by
   rintro i d e acc hd ⟨b, t, rfl, hb⟩ ⟨w, rfl, hw, hwp⟩
   obtain ⟨pd, z, ⟨p, hpo, rfl⟩, d2, d3⟩ := jE (N := N) (mf := mf) h (env := [.io 0 b, s1, s2, .imm d]) (i := 0) hb rfl
   refine ⟨[.io 0 b, s1, s2, .imm d], true, [.io 0 b, s1, s2, .imm d], by simp -implicitDefEqProofs [bY], rfl, fun _ => ⟨f p, _, d3, ⟨z, .imm d, rfl, d2⟩, w ++ [p], by simp, by simp; omega, fun q hq => ?_⟩, fun z => by cases z⟩
   rcases List.mem_append.mp hq with h | h
   ·exact hwp q h
   ·have : q = p := by simpa using h
    rw [this]; exact hpo)
 have hbk : cW [.io 0 x, s1, s2, .un] (bY [.io 0 y, s1, s2, t] [3]) [3] = [.io 0 y, s1, s2, .un] := by simp -implicitDefEqProofs [cW, bY]
 rw [hbk, hw1] at g1
 rw [iL] at hw2
 exact ⟨y, w, hy, by omega, hw3, g1⟩
theorem wI (b : D) (hb : bP b) : W mG [.io 0 b, .un, .un, .un] (ft 0 fun md d x => (∃ R O, Rep R O ∧ d = .lst [.lst (R.map di), .lst (O.map dm)]) ∧ bP x) := by
 unfold mG
 obtain ⟨y, R, hy, hRl, hR, c1⟩ := qB (N := kq) (mf := lM) (f := di) (OK := Rok) u0 (b := b) (s1 := .un) (s2 := .un) hb
 rw [aE, fK, c1, ai]
 refine ⟨by show 1 < 4; decide, ?_⟩
 rw [ay, aE, fK]
 obtain ⟨z, O, hz, hOl, hO, c2⟩ := qB (N := mM) (mf := kK) (f := dm) (OK := Ook) vf (b := y) (s1 := .own (.lst (R.map di))) (s2 := .un) hy
 show Gt (mLc _ _ _ _ _ [.io 0 y, .own (.lst (R.map di)), .un, .un]) _
 rw [c2, ai]
 refine ⟨by show 2 < 4; decide, ?_⟩
 rw [ay]
 have hrep : Rep R O := ⟨by omega, by omega, hR, hO⟩
 show W _ [.io 0 z, .own (.lst (R.map di)), .own (.lst (O.map dm)), .un] _
 obtain ⟨RD, hRD⟩ : ∃ RD, RD = R.map di := ⟨_, rfl⟩
 obtain ⟨OD, hOD⟩ : ∃ OD, OD = O.map dm := ⟨_, rfl⟩
 rw [← hRD, ← hOD]
 have t := ie (a := aj (au 1) (aj (au 2) aN)) (env := [.io 0 z, .own (.lst RD), .own (.lst OD), .un]) (e := [.io 0 z, .imm (.lst RD), .imm (.lst OD), .un]) (xs := [.lst RD, .lst OD]) (by simp) (by simp)
 rw [yn, t, ai]
 exact ⟨z, rfl, ⟨R, O, hrep, by rw [hRD, hOD]⟩, hz⟩
end Law
namespace Law
open PySem L2 Q
theorem yp : res cB cC [.imm (.str (tx []))] [] = some (.non, []) := by with_unfolding_all rfl
def jq (w : List Nat) : Prop := w = [] ∨ w = [120]
theorem zf {w : List Nat} (h : jq w) : res eZ fq [.imm (.str (tx w))] [] = some (.non, []) := by
 rcases h with rfl | rfl
 ·with_unfolding_all rfl
 ·with_unfolding_all rfl
theorem wD {w : List Nat} (h : jq w) : res iP iq [.imm (.lst (sW [w]))] [] = some (.non, []) := by
 rcases h with rfl | rfl
 ·with_unfolding_all rfl
 ·with_unfolding_all rfl
theorem xj {w : List Nat} (h : jq w) : res gx gj [.imm (.lst (sW [w]))] [] = some (.non, []) := by
 rcases h with rfl | rfl
 ·with_unfolding_all rfl
 ·with_unfolding_all rfl
theorem yf {k : Nat} (hk : k < 10) : res cB cC [.imm (.str (tx (48 :: fg k)))] [] = some (.non, []) := by
 have : ∀ k : Fin 10, res cB cC [.imm (.str (tx (48 :: fg k.val)))] [] = some (.non, []) := by
  intro k
  match k with
  | ⟨0, _⟩ => with_unfolding_all rfl
  | ⟨1, _⟩ => with_unfolding_all rfl
  | ⟨2, _⟩ => with_unfolding_all rfl
  | ⟨3, _⟩ => with_unfolding_all rfl
  | ⟨4, _⟩ => with_unfolding_all rfl
  | ⟨5, _⟩ => with_unfolding_all rfl
  | ⟨6, _⟩ => with_unfolding_all rfl
  | ⟨7, _⟩ => with_unfolding_all rfl
  | ⟨8, _⟩ => with_unfolding_all rfl
  | ⟨9, _⟩ => with_unfolding_all rfl
 exact this ⟨k, hk⟩
theorem ixW {ws : List (List Nat)} {i : Nat} {w : List Nat} (h : ws[i]? = some w) : dIx (.lst (sW ws)) (.int (i : Nat)) = some (.str (tx w)) := by
 rw [Q.a8, fj]
 show (ws.map fun w => D.str (tx w))[i]? = _
 rw [List.getElem?_map, h]; rfl
theorem nT (ws : List (List Nat)) : (sW ws).length = ws.length := List.length_map _
theorem nW {n : Nat} {X : List D} (T1 : mOr (aq (ae dLt (aa (mBi bT (aM (af 1) aY))) (aa (mC (.int 4))))) (mOr (aq (ae (aG true) (aa (ae dIx (af 1) (aa (mC (.int 0))))) (aa (mC (.str (tx RB)))))) (aq (ae (aG true) (aa (ak cB 1 cC (aC (ae dIx (af 1) (aa (mC (.int 1)))) aA))) (af 0)))) [.imm (.int (n : Nat)), .imm (.lst X), .un, .un, .un, .un, .un] = some (true, [.imm (.int (n : Nat)), .imm (.lst X), .un, .un, .un, .un, .un])) : res eU ee [.imm (.int (n : Nat)), .imm (.lst X)] [] = some (.non, []) := by
 refine cg ?_
 unfold ee
 have e1 : ("robot" : Str) = tx RB := rfl
 rw [e1, aE, bI]
 show Gt (mOr _ _ [.imm (.int (n : Nat)), .imm (.lst X), .un, .un, .un, .un, .un]) _
 rw [T1, ai, if_pos rfl, cz, bp, ai, dD, cK, ck, ai]
 exact ⟨rfl, rfl⟩
theorem tA {n : Nat} {ws : List (List Nat)} (h : ws.length < 4) : res eU ee [.imm (.int (n : Nat)), .imm (.lst (sW ws))] [] = some (.non, []) := by
 refine nW ?_
 have hl : ((sW ws).length : Int) < 4 := by rw [nT]; omega
 generalize sW ws = X at *
 simp -implicitDefEqProofs only [fN, cu, aW, dZ, cF, cS, b0, cj, aL, aP, bp, List.getElem?_cons_succ, List.getElem?_cons_zero, Option.bind_some, Option.map_some, aV, get_slot, aO, eJ, fy, hl, decide_true, if_true]
theorem mN {n : Nat} {ws : List (List Nat)} {w : List Nat} (h4 : 4 ≤ ws.length) (h0 : ws[0]? = some w) (hne : w ≠ RB) : res eU ee [.imm (.int (n : Nat)), .imm (.lst (sW ws))] [] = some (.non, []) := by
 refine nW ?_
 have hl : ¬ ((sW ws).length : Int) < 4 := by rw [nT]; omega
 have x0 : dIx (.lst (sW ws)) (.int 0) = some (.str (tx w)) := ixW h0
 have hne : ¬ tx w = tx RB := fun z => hne (fe.mp z)
 generalize sW ws = X at *
 simp -implicitDefEqProofs only [fN, cu, aW, dZ, cF, cS, b0, cj, aL, aP, bp, List.getElem?_cons_succ, List.getElem?_cons_zero, Option.bind_some, Option.map_some, aV, get_slot, aO, eJ, fy, hl, decide_false, Bool.false_eq_true, if_false, x0, eI, hne, if_true, Bool.not_false]
theorem xp {n : Nat} {ws : List (List Nat)} {w : List Nat} {d : D} (h4 : 4 ≤ ws.length) (h0 : ws[0]? = some RB) (h1 : ws[1]? = some w) (hr : res cB cC [.imm (.str (tx w))] [] = some (d, [])) (hd : aG true d (.int (n : Nat)) = some (.bl true)) : res eU ee [.imm (.int (n : Nat)), .imm (.lst (sW ws))] [] = some (.non, []) := by
 refine nW ?_
 have hl : ¬ ((sW ws).length : Int) < 4 := by rw [nT]; omega
 have x0 : dIx (.lst (sW ws)) (.int 0) = some (.str (tx RB)) := ixW h0
 have x1 : dIx (.lst (sW ws)) (.int 1) = some (.str (tx w)) := ixW h1
 generalize sW ws = X at *
 generalize tx w = TW at *
 have c1 : aq (ae dLt (aa (mBi bT (aM (af 1) aY))) (aa (mC (.int 4)))) [.imm (.int (n : Nat)), .imm (.lst X), .un, .un, .un, .un, .un] = some (false, [.imm (.int (n : Nat)), .imm (.lst X), .un, .un, .un, .un, .un]) := by
  simp -implicitDefEqProofs only [cu, aW, dZ, cF, cS, b0, cj, aL, aP, bp, List.getElem?_cons_succ, List.getElem?_cons_zero, Option.bind_some, Option.map_some, aV, get_slot, aO, eJ, fy, hl, decide_false]
 have c2 : aq (ae (aG true) (aa (ae dIx (af 1) (aa (mC (.int 0))))) (aa (mC (.str (tx RB))))) [.imm (.int (n : Nat)), .imm (.lst X), .un, .un, .un, .un, .un] = some (false, [.imm (.int (n : Nat)), .imm (.lst X), .un, .un, .un, .un, .un]) := by
  simp -implicitDefEqProofs only [cu, aW, aL, aP, bp, List.getElem?_cons_succ, List.getElem?_cons_zero, Option.bind_some, Option.map_some, aV, get_slot, aO, x0, eI, if_true, decide_true, Bool.not_true]
 have c3 : ak cB 1 cC (aC (ae dIx (af 1) (aa (mC (.int 1)))) aA) [.imm (.int (n : Nat)), .imm (.lst X), .un, .un, .un, .un, .un] = some (d, [.imm (.int (n : Nat)), .imm (.lst X), .un, .un, .un, .un, .un]) := by
  rw [cU]
  simp -implicitDefEqProofs [x1, hr, -Q.a8]
 generalize ak cB 1 cC (aC (ae dIx (af 1) (aa (mC (.int 1)))) aA) = m at c3 ⊢
 rw [fN, c1, Option.bind_some]
 dsimp only
 rw [if_neg (by simp), fN, c2, Option.bind_some]
 dsimp only
 rw [if_neg (by simp)]
 simp -implicitDefEqProofs only [cu, aW, aL, aP, List.getElem?_cons_succ, List.getElem?_cons_zero, Option.bind_some, Option.map_some, aV, get_slot, aO, c3, hd]
theorem ot {n : Nat} {X : List D} (T1 : mOr (aq (ae dLt (aa (mBi bT (aM (af 1) aY))) (aa (mC (.int 4))))) (mOr (aq (ae (aG true) (aa (ae dIx (af 1) (aa (mC (.int 0))))) (aa (mC (.str (tx OR)))))) (aq (ae (aG true) (aa (ak cB 1 cC (aC (ae dIx (af 1) (aa (mC (.int 1)))) aA))) (af 0)))) [.imm (.int (n : Nat)), .imm (.lst X), .un, .un, .un, .un] = some (true, [.imm (.int (n : Nat)), .imm (.lst X), .un, .un, .un, .un])) : res e9 eB [.imm (.int (n : Nat)), .imm (.lst X)] [] = some (.non, []) := by
 refine cg ?_
 unfold eB
 have e1 : ("order" : Str) = tx OR := rfl
 rw [e1, aE, bI]
 show Gt (mOr _ _ [.imm (.int (n : Nat)), .imm (.lst X), .un, .un, .un, .un]) _
 rw [T1, ai, if_pos rfl, cz, bp, ai, dD, cK, ck, ai]
 exact ⟨rfl, rfl⟩
theorem tV {n : Nat} {ws : List (List Nat)} (h : ws.length < 4) : res e9 eB [.imm (.int (n : Nat)), .imm (.lst (sW ws))] [] = some (.non, []) := by
 refine ot ?_
 have hl : ((sW ws).length : Int) < 4 := by rw [nT]; omega
 generalize sW ws = X at *
 simp -implicitDefEqProofs only [fN, cu, aW, dZ, cF, cS, b0, cj, aL, aP, bp, List.getElem?_cons_succ, List.getElem?_cons_zero, Option.bind_some, Option.map_some, aV, get_slot, aO, eJ, fy, hl, decide_true, if_true]
theorem mP {n : Nat} {ws : List (List Nat)} {w : List Nat} (h4 : 4 ≤ ws.length) (h0 : ws[0]? = some w) (hne : w ≠ OR) : res e9 eB [.imm (.int (n : Nat)), .imm (.lst (sW ws))] [] = some (.non, []) := by
 refine ot ?_
 have hl : ¬ ((sW ws).length : Int) < 4 := by rw [nT]; omega
 have x0 : dIx (.lst (sW ws)) (.int 0) = some (.str (tx w)) := ixW h0
 have hne : ¬ tx w = tx OR := fun z => hne (fe.mp z)
 generalize sW ws = X at *
 simp -implicitDefEqProofs only [fN, cu, aW, dZ, cF, cS, b0, cj, aL, aP, bp, List.getElem?_cons_succ, List.getElem?_cons_zero, Option.bind_some, Option.map_some, aV, get_slot, aO, eJ, fy, hl, decide_false, Bool.false_eq_true, if_false, x0, eI, hne, if_true, Bool.not_false]
theorem w5 {n : Nat} {ws : List (List Nat)} {w : List Nat} {d : D} (h4 : 4 ≤ ws.length) (h0 : ws[0]? = some OR) (h1 : ws[1]? = some w) (hr : res cB cC [.imm (.str (tx w))] [] = some (d, [])) (hd : aG true d (.int (n : Nat)) = some (.bl true)) : res e9 eB [.imm (.int (n : Nat)), .imm (.lst (sW ws))] [] = some (.non, []) := by
 refine ot ?_
 have hl : ¬ ((sW ws).length : Int) < 4 := by rw [nT]; omega
 have x0 : dIx (.lst (sW ws)) (.int 0) = some (.str (tx OR)) := ixW h0
 have x1 : dIx (.lst (sW ws)) (.int 1) = some (.str (tx w)) := ixW h1
 generalize sW ws = X at *
 generalize tx w = TW at *
 have c1 : aq (ae dLt (aa (mBi bT (aM (af 1) aY))) (aa (mC (.int 4)))) [.imm (.int (n : Nat)), .imm (.lst X), .un, .un, .un, .un] = some (false, [.imm (.int (n : Nat)), .imm (.lst X), .un, .un, .un, .un]) := by
  simp -implicitDefEqProofs only [cu, aW, dZ, cF, cS, b0, cj, aL, aP, bp, List.getElem?_cons_succ, List.getElem?_cons_zero, Option.bind_some, Option.map_some, aV, get_slot, aO, eJ, fy, hl, decide_false]
 have c2 : aq (ae (aG true) (aa (ae dIx (af 1) (aa (mC (.int 0))))) (aa (mC (.str (tx OR))))) [.imm (.int (n : Nat)), .imm (.lst X), .un, .un, .un, .un] = some (false, [.imm (.int (n : Nat)), .imm (.lst X), .un, .un, .un, .un]) := by
  simp -implicitDefEqProofs only [cu, aW, aL, aP, bp, List.getElem?_cons_succ, List.getElem?_cons_zero, Option.bind_some, Option.map_some, aV, get_slot, aO, x0, eI, if_true, decide_true, Bool.not_true]
 have c3 : ak cB 1 cC (aC (ae dIx (af 1) (aa (mC (.int 1)))) aA) [.imm (.int (n : Nat)), .imm (.lst X), .un, .un, .un, .un] = some (d, [.imm (.int (n : Nat)), .imm (.lst X), .un, .un, .un, .un]) := by
  rw [cU]
  simp -implicitDefEqProofs [x1, hr, -Q.a8]
 generalize ak cB 1 cC (aC (ae dIx (af 1) (aa (mC (.int 1)))) aA) = m at c3 ⊢
 rw [fN, c1, Option.bind_some]
 dsimp only
 rw [if_neg (by simp), fN, c2, Option.bind_some]
 dsimp only
 rw [if_neg (by simp)]
 simp -implicitDefEqProofs only [cu, aW, aL, aP, List.getElem?_cons_succ, List.getElem?_cons_zero, Option.bind_some, Option.map_some, aV, get_slot, aO, c3, hd]
theorem tz {a n : Nat} (h : a ≠ n) : aG true (.int (a : Nat)) (.int (n : Nat)) = some (.bl true) := by
 rw [lQ]
 have : ¬ ((a : Nat) : Int) = (n : Nat) := by omega
 simp [this]
theorem nj (n : Nat) : aG true .non (.int (n : Nat)) = some (.bl true) := rfl
end Law
namespace Law
open PySem L2 Q
theorem zG (ps : List (Nat × Nat)) : lF false .non (.lst (ps.map pD ++ [.non])) = some (.bl true) := by
 have k1 : ∀ ps : List (Nat × Nat), eO (ps.map pD ++ [.non]) = some ((ps.map fun p => PyData.tuple [.int (p.1 : Nat), .int (p.2 : Nat)]) ++ [.none]) := fun ps => by
  induction ps with
  | nil => rfl
  | cons p ps ih => simp [eO, toP, ih]
 have k2 : ∀ ps : List (Nat × Nat), PyData.canLayAll0 ((ps.map fun p => PyData.tuple [.int (p.1 : Nat), .int (p.2 : Nat)]) ++ [.none]) = true ∧ PyData.depthAll ((ps.map fun p => PyData.tuple [.int (p.1 : Nat), .int (p.2 : Nat)]) ++ [.none]) ≤ 3 := fun ps => by
  induction ps with
  | nil => exact ⟨rfl, by decide⟩
  | cons p ps ih =>
   obtain ⟨a, b⟩ := ih
   exact ⟨by simp [PyData.canLayAll0, PyData.canLay0, a], by simp [PyData.depthAll, PyData.depth]; omega⟩
 have k3 : ∀ ps : List (Nat × Nat), ((ps.map fun p => PyData.tuple [.int (p.1 : Nat), .int (p.2 : Nat)]) ++ [PyData.none]).any (fun z => PyData.eqv z PyData.none) = true := fun ps => by
  rw [List.any_append]
  have : ([PyData.none]).any (fun z => PyData.eqv z PyData.none) = true := rfl
  rw [this, Bool.or_true]
 have sh : SeqAt.shaped (.list ((ps.map fun p => PyData.tuple [.int (p.1 : Nat), .int (p.2 : Nat)]) ++ [.none])) = true := by
  unfold SeqAt.shaped
  obtain ⟨a, b⟩ := k2 ps
  simp [PyData.canLay0, PyData.depth, a]
  omega
 have sn : SeqAt.shaped PyData.none = true := rfl
 show ((toP D.non).bind fun d => (eO (ps.map pD ++ [.non])).bind fun ds => if (SeqAt.shaped d && SeqAt.shaped (.list ds)) = true then some (D.bl (if false then !(ds.any fun z => PyData.eqv z d) else ds.any fun z => PyData.eqv z d)) else none) = _
 rw [k1]
 show (if (SeqAt.shaped PyData.none && SeqAt.shaped (.list ((ps.map fun p => PyData.tuple [.int (p.1 : Nat), .int (p.2 : Nat)]) ++ [.none]))) = true then some (D.bl (((ps.map fun p => PyData.tuple [.int (p.1 : Nat), .int (p.2 : Nat)]) ++ [PyData.none]).any fun z => PyData.eqv z PyData.none)) else none) = _
 rw [sn, sh, if_pos (by rfl), k3]
theorem zD (ps : List (Nat × Nat)) (hp : ∀ p ∈ ps, Pok p) (hl : ps.length ≤ 100) {w : List Nat} (hw : jq w) : res gx gj [.imm (.lst (sW (dO ps ++ [w])))] [] = some (.non, []) := by
 cases ps with
 | nil => exact xj hw
 | cons p0 ps =>
  obtain ⟨qs, hqs⟩ : ∃ X, X = p0 :: ps := ⟨_, rfl⟩
  have hwy : dO (p0 :: ps) = WY :: qs.map fun p => plW (some p) := by rw [hqs]; rfl
  rw [hwy]
  rw [← hqs] at hp hl
  refine cg ?_
  unfold gj
  have ew : ("way" : Str) = tx WY := rfl
  rw [ew]
  let wF : Option (Nat × Nat) → D := fun o => match o with
   | some p => .str (tx (plW (some p)))
   | none => .str (tx w)
  let gF : Option (Nat × Nat) → D := fun o => match o with
   | some p => pD p
   | none => .non
  obtain ⟨X, hX⟩ : ∃ X, X = sW (WY :: (qs.map fun p => plW (some p)) ++ [w]) := ⟨_, rfl⟩
  have e : X = .str (tx WY) :: (qs.map some ++ [none]).map wF := by
   rw [hX]
   simp [sW, wF]
  have hd : X.drop 1 = (qs.map some ++ [none]).map wF := by rw [e]; rfl
  have cd : cq (.lst X) (some 1) none = some (.lst ((qs.map some ++ [none]).map wF)) := by
   show some (D.lst (cutD X (some ((1 : Nat) : Int)) none)) = _
   rw [eS, hd]
  have rb := zf hw
  have L : mLc [2] (eA (mSl cq (af 0) (b9 (mC (.int 1))) cf)) (gN 2) cZ (ak eZ 1 fq (aC (au 2) aA)) [.imm (.lst X), .un, .un] = some (.lst ((qs.map some ++ [none]).map gF), [.imm (.lst X), .un, .un]) :=
   Am (l := qs.map some ++ [none]) (F := wF) (env := [.imm (.lst X), .un, .un]) (by
    generalize (qs.map some ++ [none]).map wF = WD at *
    simp -implicitDefEqProofs [cd]) rfl (by rw [List.length_append, List.length_map]; simp; omega) gF (fun o ho => by
    show ak _ _ _ _ [.imm (.lst X), .un, .imm (wF o)] = some (gF o, [.imm (.lst X), .un, .imm (wF o)])
    have hr : res eZ fq [.imm (wF o)] [] = some (gF o, []) := by
     cases o with
     | none => exact rb
     | some p =>
      have hm : p ∈ qs := by
       rcases List.mem_append.mp ho with h | h
       ·obtain ⟨q, hq, e⟩ := List.mem_map.mp h
        cases e; exact hq
       ·cases List.mem_singleton.mp h
      exact m6 (some p) (fun q e => by cases e; exact hp p hm)
    generalize wF o = WD at *
    generalize gF o = GD at *
    simp -implicitDefEqProofs [cU, hr])
  have hg : (qs.map some ++ [none]).map gF = qs.map pD ++ [.non] := by
   rw [List.map_append, List.map_map]; rfl
  rw [hg] at L
  have np := zG qs
  have t0 : dR (.lst X) = some true := by rw [e]; rfl
  have t1 : dR (.lst (qs.map pD ++ [.non])) = some true := by rw [hqs]; rfl
  have ix : dIx (.lst X) (.int 0) = some (.str (tx WY)) := by rw [e, Q.a8, fP]; rfl
  rw [← hX, aE, fK]
  show Gt (mLc _ _ _ _ _ [.imm (.lst X), .un, .un]) _
  rw [L, ai]
  refine ⟨by show 1 < 3; decide, ?_⟩
  rw [ay]
  show W _ [.imm (.lst X), .own (.lst (qs.map pD ++ [.non])), .un] _
  generalize qs.map pD ++ [D.non] = Y at *
  simp -implicitDefEqProofs [t0, t1, ix, np, -Q.a8]
theorem y0 (e : Er) (he : Eok e) {bw : List Nat} (hb : jq bw) : res iP iq [.imm (.lst (sW (eW e ++ [bw])))] [] = some (.non, []) := by
 obtain ⟨o, l, w⟩ := e
 have rw_ := zD w he.w he.n hb
 by_cases h0 : o = none ∧ w = []
 ·obtain ⟨rfl, rfl⟩ := h0
  exact wD hb
 refine cg ?_
 unfold iq
 have ew : ("way" : Str) = tx WY := rfl
 rw [ew]
 obtain ⟨X, hX⟩ : ∃ X, X = sW (eW ⟨o, l, w⟩ ++ [bw]) := ⟨_, rfl⟩
 rw [← hX]
 obtain ⟨Y, hY⟩ : ∃ Y, Y = sW (dO w ++ [bw]) := ⟨_, rfl⟩
 rw [← hY] at rw_
 have tail : ∀ (od : D) (lb : Bool) (s4 : Sl), W (aH (bL 5 (ak gx 1 gj (fo 3 aA)))
   (be (mIf (aq (ae (dIs false) (af 5) (aa (mC .non)))) (mC .non) (cN (aj (au 1) (aj (au 2) (aj (au 5) aN))))))) [.imm (.lst X), .imm od, .imm (.bl lb), .imm (.lst Y), s4, .un] (RtA [] fun _ d ds => d = .non ∧ ds = []) := by
  intro od lb s4
  have A : ak gx 1 gj (fo 3 aA) [.imm (.lst X), .imm od, .imm (.bl lb), .imm (.lst Y), s4, .un] = some (.non, [.imm (.lst X), .imm od, .imm (.bl lb), .imm (.lst Y), s4, .un]) := by
   simp -implicitDefEqProofs [cU, rw_]
  rw [aE, bQ, A, ai]
  refine ⟨by show 5 < 6; decide, ?_⟩
  rw [ay, cz]
  show Gt (mIf _ _ _ [.imm (.lst X), .imm od, .imm (.bl lb), .imm (.lst Y), s4, .imm .non]) _
  have B : mIf (aq (ae (dIs false) (af 5) (aa (mC .non)))) (mC .non) (cN (aj (au 1) (aj (au 2) (aj (au 5) aN)))) [.imm (.lst X), .imm od, .imm (.bl lb), .imm (.lst Y), s4, .imm .non] = some (.non, [.imm (.lst X), .imm od, .imm (.bl lb), .imm (.lst Y), s4, .imm .non]) := by
   unfold mIf
   simp -implicitDefEqProofs
  rw [B, ai, cK, ck, ai]
  exact ⟨rfl, rfl⟩
 rw [aE, bQ, bp, ai]
 refine ⟨by show 1 < 6; decide, ?_⟩
 rw [ay, aE, bQ, bp, ai]
 refine ⟨by show 2 < 6; decide, ?_⟩
 rw [ay, aE, bQ]
 show Gt (au 0 [.imm (.lst X), .imm .non, .imm (.bl false), .un, .un, .un]) _
 have v0 : au 0 [.imm (.lst X), .imm .non, .imm (.bl false), .un, .un, .un] = some (.lst X, [.imm (.lst X), .imm .non, .imm (.bl false), .un, .un, .un]) := rfl
 rw [v0, ai]
 refine ⟨by show 3 < 6; decide, ?_⟩
 rw [ay, aE]
 show W (bx _ _ _) [.imm (.lst X), .imm .non, .imm (.bl false), .imm (.lst X), .un, .un] _
 cases o with
 | none =>
  have hXY : X = Y := by rw [hX, hY]; rfl
  have T : fb (bZ (af 0)) (aq (ae (aG true) (aa (ae dIx (af 0) (aa (mC (.int 0))))) (aa (mC (.str (tx WY)))))) [.imm (.lst X), .imm .non, .imm (.bl false), .imm (.lst X), .un, .un] = some (false, [.imm (.lst X), .imm .non, .imm (.bl false), .imm (.lst X), .un, .un]) := by
   cases w with
   | nil => exact absurd ⟨rfl, rfl⟩ h0
   | cons p w =>
    have e : X = .str (tx WY) :: sW (List.map (fun p => plW (some p)) (p :: w) ++ [bw]) := by rw [hX]; rfl
    have t0 : dR (.lst X) = some true := by rw [e]; rfl
    have ix : dIx (.lst X) (.int 0) = some (.str (tx WY)) := by rw [e, Q.a8, fP]; rfl
    simp -implicitDefEqProofs [t0, ix, -Q.a8]
  rw [bI, T, ai, if_neg (by simp), bA, ay]
  have := tail .non false .un
  rw [← hXY] at this
  exact this
 | some n =>
  have hn := he.o n rfl
  have rs := pH l hn
  have e : X = .str (tx (ldW l)) :: .str (tx (fg n)) :: Y := by rw [hX, hY]; rfl
  have t0 : dR (.lst X) = some true := by rw [e]; rfl
  have ix : dIx (.lst X) (.int 0) = some (.str (tx (ldW l))) := by rw [e, Q.a8, fP]; rfl
  have s2 : cq (.lst X) none (some 2) = some (.lst [.str (tx (ldW l)), .str (tx (fg n))]) := by
   show some (D.lst (cutD X none (some ((2 : Nat) : Int)))) = _
   rw [qZ, e]; rfl
  have s3 : cq (.lst X) (some 2) none = some (.lst Y) := by
   show some (D.lst (cutD X (some ((2 : Nat) : Int)) none)) = _
   rw [eS, e]; rfl
  have nw := sO l
  generalize ldW l = LW at *
  have T : fb (bZ (af 0)) (aq (ae (aG true) (aa (ae dIx (af 0) (aa (mC (.int 0))))) (aa (mC (.str (tx WY)))))) [.imm (.lst X), .imm .non, .imm (.bl false), .imm (.lst X), .un, .un] = some (true, [.imm (.lst X), .imm .non, .imm (.bl false), .imm (.lst X), .un, .un]) := by
   simp -implicitDefEqProofs only [kZ, fL, cu, aW, aL, aP, bp, List.getElem?_cons_zero, Option.bind_some, Option.map_some, aV, get_slot, aO, t0, ix, eI, nw, if_true, Bool.not_false]
  have A : ak fH 1 fm (aC (mSl cq (af 0) cf (b9 (mC (.int 2)))) aA) [.imm (.lst X), .imm .non, .imm (.bl false), .imm (.lst X), .un, .un] = some (.tup [.bl l, .int (n : Nat)], [.imm (.lst X), .imm .non, .imm (.bl false), .imm (.lst X), .un, .un]) := by
   simp -implicitDefEqProofs [cU, s2, rs]
  rw [bI, T, ai, if_pos rfl, aE, bQ, A, ai]
  refine ⟨by show 4 < 6; decide, ?_⟩
  have T2 : aq (ae (dIs false) (af 4) (aa (mC .non))) [.imm (.lst X), .imm .non, .imm (.bl false), .imm (.lst X), .imm (.tup [.bl l, .int (n : Nat)]), .un] = some (false, [.imm (.lst X), .imm .non, .imm (.bl false), .imm (.lst X), .imm (.tup [.bl l, .int (n : Nat)]), .un]) := rfl
  rw [ay, aE, bI]
  show Gt (aq _ [.imm (.lst X), .imm .non, .imm (.bl false), .imm (.lst X), .imm (.tup [.bl l, .int (n : Nat)]), .un]) _
  rw [T2, ai, if_neg (by simp), bA, ay, aE, iN]
  have v4 : au 4 [.imm (.lst X), .imm .non, .imm (.bl false), .imm (.lst X), .imm (.tup [.bl l, .int (n : Nat)]), .un] = some (.tup [.bl l, .int (n : Nat)], [.imm (.lst X), .imm .non, .imm (.bl false), .imm (.lst X), .imm (.tup [.bl l, .int (n : Nat)]), .un]) := rfl
  have G : gT 2 (aT (gN 2) (aT (gN 1) dk)) (.tup [.bl l, .int (n : Nat)]) [.imm (.lst X), .imm .non, .imm (.bl false), .imm (.lst X), .imm (.tup [.bl l, .int (n : Nat)]), .un] = some [.imm (.lst X), .imm (.int (n : Nat)), .imm (.bl l), .imm (.lst X), .imm (.tup [.bl l, .int (n : Nat)]), .un] := by simp -implicitDefEqProofs
  rw [v4, ai, G, ai, ay, bQ]
  have S : mSl cq (af 0) (b9 (mC (.int 2))) cf [.imm (.lst X), .imm (.int (n : Nat)), .imm (.bl l), .imm (.lst X), .imm (.tup [.bl l, .int (n : Nat)]), .un] = some (.lst Y, [.imm (.lst X), .imm (.int (n : Nat)), .imm (.bl l), .imm (.lst X), .imm (.tup [.bl l, .int (n : Nat)]), .un]) := by
   simp -implicitDefEqProofs [s3]
  rw [S, ai]
  refine ⟨by show 3 < 6; decide, ?_⟩
  rw [ay]
  exact tail _ _ _
end Law
namespace Law
open PySem L2 Q
theorem uv (n : Nat) (r : Rob) (hn : n < 1000000) (hr : Rok r) {bw : List Nat} (hb : jq bw) : res eU ee [.imm (.int (n : Nat)), .imm (.lst (sW (dh n r ++ [bw])))] [] = some (.non, []) := by
 refine cg ?_
 unfold ee
 have e1 : ("robot" : Str) = tx RB := rfl
 have e2 : ("depot" : Str) = tx dep := rfl
 have e3 : ("broken" : Str) = tx BR := rfl
 have e4 : ("runs" : Str) = tx RU := rfl
 rw [e1, e2, e3, e4]
 obtain ⟨X, hX⟩ : ∃ X, X = sW (dh n r ++ [bw]) := ⟨_, rfl⟩
 obtain ⟨Y, hY⟩ : ∃ Y, Y = sW (eW r.er ++ [bw]) := ⟨_, rfl⟩
 have e : X = .str (tx RB) :: .str (tx (fg n)) :: .str (tx (plW r.place)) :: .str (tx (brW r.broken)) :: Y := by rw [hX, hY]; rfl
 have x0 : dIx (.lst X) (.int 0) = some (.str (tx RB)) := by rw [e, Q.a8, fP]; rfl
 have x1 : dIx (.lst X) (.int 1) = some (.str (tx (fg n))) := by rw [e, Q.a8, oY]; rfl
 have x2 : dIx (.lst X) (.int 2) = some (.str (tx (plW r.place))) := by rw [e, Q.a8, o4]; rfl
 have x3 : dIx (.lst X) (.int 3) = some (.str (tx (brW r.broken))) := by
  rw [e, Q.a8]
  have := fj (.str (tx RB) :: .str (tx (fg n)) :: .str (tx (plW r.place)) :: .str (tx (brW r.broken)) :: Y) 3
  exact this
 have s4 : cq (.lst X) (some 4) none = some (.lst Y) := by
  show some (D.lst (cutD X (some ((4 : Nat) : Int)) none)) = _
  rw [eS, e]; rfl
 have hl : ¬ ((X.length : Nat) : Int) < 4 := by rw [e]; simp only [List.length_cons]; omega
 have rn := ic hn
 have rp := m6 r.place hr.p
 have re := y0 r.er hr.e hb
 have ib := wa r.broken
 rw [← hX]
 rw [← hY] at re
 have hpd : fb (aq (ae (dIs false) (af 2) (aa (mC .non)))) (aq (ae (aG true) (aa (ae dIx (af 1) (aa (mC (.int 2))))) (aa (mC (.str (tx dep)))))) [.imm (.int (n : Nat)), .imm (.lst X), .imm (bR r.place), .imm .non, .un, .un, .un] = some (false, [.imm (.int (n : Nat)), .imm (.lst X), .imm (bR r.place), .imm .non, .un, .un, .un]) := by
  cases hp : r.place with
  | none =>
   rw [hp] at x2
   have x2 : dIx (.lst X) (.int 2) = some (.str (tx dep)) := x2
   simp -implicitDefEqProofs [bR, x2, -Q.a8]
  | some q =>
   have hq : (bR (some q)).isNon = false := rfl
   generalize bR (some q) = PD at hq
   simp -implicitDefEqProofs [hq]
 generalize plW r.place = PW at *
 generalize bR r.place = PD at *
 generalize brW r.broken = BW at *
 have T1 : mOr (aq (ae dLt (aa (mBi bT (aM (af 1) aY))) (aa (mC (.int 4))))) (mOr (aq (ae (aG true) (aa (ae dIx (af 1) (aa (mC (.int 0))))) (aa (mC (.str (tx RB)))))) (aq (ae (aG true) (aa (ak cB 1 cC (aC (ae dIx (af 1) (aa (mC (.int 1)))) aA))) (af 0)))) [.imm (.int (n : Nat)), .imm (.lst X), .un, .un, .un, .un, .un] = some (false, [.imm (.int (n : Nat)), .imm (.lst X), .un, .un, .un, .un, .un]) := by
  simp -implicitDefEqProofs [hl, x0, x1, cU, rn, -Q.a8]
 have A2 : ak eZ 1 fq (aC (ae dIx (af 1) (aa (mC (.int 2)))) aA) [.imm (.int (n : Nat)), .imm (.lst X), .un, .un, .un, .un, .un] = some (PD, [.imm (.int (n : Nat)), .imm (.lst X), .un, .un, .un, .un, .un]) := by
  simp -implicitDefEqProofs [cU, x2, rp, -Q.a8]
 have A3 : ak iP 1 iq (aC (mSl cq (af 1) (b9 (mC (.int 4))) cf) aA) [.imm (.int (n : Nat)), .imm (.lst X), .imm PD, .un, .un, .un, .un] = some (.non, [.imm (.int (n : Nat)), .imm (.lst X), .imm PD, .un, .un, .un, .un]) := by
  simp -implicitDefEqProofs [cU, s4, re]
 rw [aE, bI]
 show Gt (mOr _ _ [.imm (.int (n : Nat)), .imm (.lst X), .un, .un, .un, .un, .un]) _
 rw [T1, ai, if_neg (by simp), bA, ay, aE, bQ, A2, ai]
 refine ⟨by show 2 < 7; decide, ?_⟩
 rw [ay, aE, bQ]
 show Gt (ak _ _ _ _ [.imm (.int (n : Nat)), .imm (.lst X), .imm PD, .un, .un, .un, .un]) _
 rw [A3, ai]
 refine ⟨by show 3 < 7; decide, ?_⟩
 rw [ay, aE, bI]
 show Gt (mOr _ _ [.imm (.int (n : Nat)), .imm (.lst X), .imm PD, .imm .non, .un, .un, .un]) _
 have T4 : mOr (aq (ae (dIn true) (aa (ae dIx (af 1) (aa (mC (.int 3))))) (aa (cN (aj (mC (.str (tx BR))) (aj (mC (.str (tx RU))) aN)))))) (aq (ae (dIs false) (af 3) (aa (mC .non)))) [.imm (.int (n : Nat)), .imm (.lst X), .imm PD, .imm .non, .un, .un, .un] = some (true, [.imm (.int (n : Nat)), .imm (.lst X), .imm PD, .imm .non, .un, .un, .un]) := by
  simp -implicitDefEqProofs [x3, ib, -Q.a8]
 rw [fN, hpd, Option.bind_some, if_neg (by simp), T4, ai, if_pos rfl, cz, bp, ai, dD, cK, ck, ai]
 exact ⟨rfl, rfl⟩
theorem zR (st : St) (h : sx st) {bw : List Nat} (hb : jq bw) : res jr iY [.imm (.lst (sW (stW st ++ [bw])))] [] = some (.non, []) := by
 cases st with
 | done =>
  rcases hb with rfl | rfl
  ·with_unfolding_all rfl
  ·with_unfolding_all rfl
 | waits =>
  rcases hb with rfl | rfl
  ·with_unfolding_all rfl
  ·with_unfolding_all rfl
 | has n b =>
  have ob : PyData.strOk (tx bw) = true := by rcases hb with rfl | rfl <;> decide +kernel
  have sh1 : ∀ a : List Nat, PyData.strOk (tx a) = true → SeqAt.shaped (.list [.str (tx a)]) = true := fun a ha => by
   unfold SeqAt.shaped; simp [PyData.canLay0, PyData.canLayAll0, PyData.depth, PyData.depthAll, ha]
  have sh3 : SeqAt.shaped (.list [.str (tx (ldW b)), .str (tx (fg n)), .str (tx bw)]) = true := by
   unfold SeqAt.shaped; simp [PyData.canLay0, PyData.canLayAll0, PyData.depth, PyData.depthAll, vK b, v9 n, ob]
  have one : ∀ w : List Nat, PyData.strOk (tx w) = true → aG false (.lst (sW (stW (.has n b) ++ [bw]))) (.lst [.str (tx w)]) = some (.bl false) := fun w hw => by
   show (if (SeqAt.shaped (.list [.str (tx (ldW b)), .str (tx (fg n)), .str (tx bw)]) && SeqAt.shaped (.list [.str (tx w)])) = true then some (D.bl (PyData.eqv (.list [.str (tx (ldW b)), .str (tx (fg n)), .str (tx bw)]) (.list [.str (tx w)]))) else none) = _
   rw [sh3, sh1 w hw, if_pos (by rfl)]
   have : PyData.eqv (.list [.str (tx (ldW b)), .str (tx (fg n)), .str (tx bw)]) (.list [.str (tx w)]) = false := by
    simp [PyData.eqv, PyData.eqvAll]
   rw [this]
  refine cg ?_
  unfold iY
  have e1 : ("done" : Str) = tx DN := rfl
  have e2 : ("waits" : Str) = tx WT := rfl
  have q1 := one DN (by decide +kernel)
  have q2 := one WT (by decide +kernel)
  rw [e1, e2]
  have hl3 : ¬ ((sW (stW (.has n b) ++ [bw])).length : Int) = 2 := by
   show ¬ ((3 : Nat) : Int) = 2
   decide
  have rs : res fH fm [.imm (.lst (sW (stW (.has n b) ++ [bw])))] [] = some (.non, []) := by
   refine cg ?_
   unfold fm
   generalize sW (stW (.has n b) ++ [bw]) = X at *
   have T : mOr (aq (ae (aG true) (aa (mBi bT (aM (af 0) aY))) (aa (mC (.int 2))))) (aq (ae (dIn true) (aa (ae dIx (af 0) (aa (mC (.int 0))))) (aa (cN (aj (mC (.str "loaded")) (aj (mC (.str "empty")) aN)))))) [.imm (.lst X), .un] = some (true, [.imm (.lst X), .un]) := by
    simp -implicitDefEqProofs [hl3]
   rw [aE, bI]
   show Gt (mOr _ _ [.imm (.lst X), .un]) _
   rw [T, ai, if_pos rfl, cz, bp, ai, dD, cK, ck, ai]
   exact ⟨rfl, rfl⟩
  generalize sW (stW (.has n b) ++ [bw]) = X at *
  have A : ak fH 1 fm (fo 0 aA) [.imm (.lst X), .un, .un, .un] = some (.non, [.imm (.lst X), .un, .un, .un]) := by
   simp -implicitDefEqProofs [cU, rs]
  have T1 : ∀ (w : List Nat), aG false (.lst X) (.lst [.str (tx w)]) = some (.bl false) → aq (ae (aG false) (af 0) (aa (b8 (aj (mC (.str (tx w))) aN)))) [.imm (.lst X), .un, .un, .un] = some (false, [.imm (.lst X), .un, .un, .un]) := fun w hw => by
   simp -implicitDefEqProofs [hw]
  show W _ [.imm (.lst X), .un, .un, .un] _
  rw [aE, bI, T1 _ q1, ai, if_neg (by simp), bA, ay, aE, bI, T1 _ q2, ai, if_neg (by simp), bA, ay, aE, bQ, A, ai]
  refine ⟨by show 1 < 4; decide, ?_⟩
  rw [ay]
  show W _ [.imm (.lst X), .imm .non, .un, .un] _
  have T2 : aq (ae (dIs false) (af 1) (aa (mC .non))) [.imm (.lst X), .imm .non, .un, .un] = some (true, [.imm (.lst X), .imm .non, .un, .un]) := rfl
  rw [aE, bI, T2, ai, if_pos rfl, cz, bp, ai, dD, cK, ck, ai]
  exact ⟨rfl, rfl⟩
theorem u4 (n : Nat) (o : Ord) (hn : n < 1000000) (ho : Ook o) {bw : List Nat} (hb : jq bw) : res e9 eB [.imm (.int (n : Nat)), .imm (.lst (sW (df n o ++ [bw])))] [] = some (.non, []) := by
 refine cg ?_
 unfold eB
 have e1 : ("order" : Str) = tx OR := rfl
 rw [e1]
 obtain ⟨X, hX⟩ : ∃ X, X = sW (df n o ++ [bw]) := ⟨_, rfl⟩
 obtain ⟨Y, hY⟩ : ∃ Y, Y = sW (stW o.st ++ [bw]) := ⟨_, rfl⟩
 have e : X = .str (tx OR) :: .str (tx (fg n)) :: .str (tx [65 + o.s]) :: .str (tx [65 + o.g]) :: Y := by rw [hX, hY]; rfl
 have x0 : dIx (.lst X) (.int 0) = some (.str (tx OR)) := by rw [e, Q.a8, fP]; rfl
 have x1 : dIx (.lst X) (.int 1) = some (.str (tx (fg n))) := by rw [e, Q.a8, oY]; rfl
 have x2 : dIx (.lst X) (.int 2) = some (.str (tx [65 + o.s])) := by rw [e, Q.a8, o4]; rfl
 have x3 : dIx (.lst X) (.int 3) = some (.str (tx [65 + o.g])) := by
  rw [e, Q.a8]
  exact fj (.str (tx OR) :: .str (tx (fg n)) :: .str (tx [65 + o.s]) :: .str (tx [65 + o.g]) :: Y) 3
 have s4 : cq (.lst X) (some 4) none = some (.lst Y) := by
  show some (D.lst (cutD X (some ((4 : Nat) : Int)) none)) = _
  rw [eS, e]; rfl
 have hl : ¬ ((X.length : Nat) : Int) < 4 := by rw [e]; simp only [List.length_cons]; omega
 have rn := ic hn
 have rs := zR o.st ho.st hb
 have ls := lZ ho.s
 have lg := lZ ho.g
 rw [← hX]
 rw [← hY] at rs
 have T1 : mOr (aq (ae dLt (aa (mBi bT (aM (af 1) aY))) (aa (mC (.int 4))))) (mOr (aq (ae (aG true) (aa (ae dIx (af 1) (aa (mC (.int 0))))) (aa (mC (.str (tx OR)))))) (aq (ae (aG true) (aa (ak cB 1 cC (aC (ae dIx (af 1) (aa (mC (.int 1)))) aA))) (af 0)))) [.imm (.int (n : Nat)), .imm (.lst X), .un, .un, .un, .un] = some (false, [.imm (.int (n : Nat)), .imm (.lst X), .un, .un, .un, .un]) := by
  simp -implicitDefEqProofs [hl, x0, x1, cU, rn, -Q.a8]
 have A2 : ak jr 1 iY (aC (mSl cq (af 1) (b9 (mC (.int 4))) cf) aA) [.imm (.int (n : Nat)), .imm (.lst X), .un, .un, .un, .un] = some (.non, [.imm (.int (n : Nat)), .imm (.lst X), .un, .un, .un, .un]) := by
  simp -implicitDefEqProofs [cU, s4, rs]
 have T3 : mOr (gD (bZ (aa (ak iw 1 iy (aC (ae dIx (af 1) (aa (mC (.int 2)))) aA))))) (mOr (gD (bZ (aa (ak iw 1 iy (aC (ae dIx (af 1) (aa (mC (.int 3)))) aA))))) (aq (ae (dIs false) (af 2) (aa (mC .non))))) [.imm (.int (n : Nat)), .imm (.lst X), .imm .non, .un, .un, .un] = some (true, [.imm (.int (n : Nat)), .imm (.lst X), .imm .non, .un, .un, .un]) := by
  simp -implicitDefEqProofs [cU, x2, x3, ls, lg, -Q.a8]
 rw [aE, bI]
 show Gt (mOr _ _ [.imm (.int (n : Nat)), .imm (.lst X), .un, .un, .un, .un]) _
 rw [T1, ai, if_neg (by simp), bA, ay, aE, bQ, A2, ai]
 refine ⟨by show 2 < 6; decide, ?_⟩
 rw [ay, aE, bI]
 show Gt (mOr _ _ [.imm (.int (n : Nat)), .imm (.lst X), .imm .non, .un, .un, .un]) _
 rw [T3, ai, if_pos rfl, cz, bp, ai, dD, cK, ck, ai]
 exact ⟨rfl, rfl⟩
end Law
namespace Law
open PySem L2 Q
section
variable {M M1 M2 M3 : Mem} {env : aD} {Q : FlC → Prop} {b : MSC}
theorem eh {x : MEC} {v : aw} {i : Nat} (hx : x M env = some (v, M1)) (hi : i < env.length) (hQ : WC b M1 (env.set i (some v)) Q) : WC (cY (eM (gNC i) x) b) M env Q := by
 rw [qg, zH, hx, ai, zx, if_pos hi, ai]
 exact hQ
theorem l0 {x : MEC} {v : aw} (hx : x M env = some (v, M1)) (hQ : Q (.ret v M1 env)) : WC (gK x) M env Q := by
 rw [zy, hx, ai]
 exact hQ
theorem nr {c : MTC} {a : MSC} {p : Bool} {d : MSC} (hc : c M env = some (p, M1)) (h1 : p = true → WC a M1 env (sqC d Q)) (h2 : p = false → WC b M1 env (sqC d Q)) : WC (cY (iu c a b) d) M env Q := by
 rw [qg, vT, hc, ai]
 cases p with
 | true => exact h1 rfl
 | false => exact h2 rfl
theorem ki {c : MTC} {a : MSC} {p : Bool} (hc : c M env = some (p, M1)) (h1 : p = true → WC a M1 env Q) (h2 : p = false → WC b M1 env Q) : WC (iu c a b) M env Q := by
 rw [vT, hc, ai]
 cases p with
 | true => exact h1 rfl
 | false => exact h2 rfl
theorem yt {a : MSC} (h : WC a M env (sqC b Q)) : WC (cY a b) M env Q := by rw [qg]; exact h
theorem dE {a : MEC} {r : MAC} {v : aw} {cs : List aw} (ha : a M env = some (v, M1)) (hr : r M1 env = some (cs, M2)) : bD a r M env = some (v :: cs, M2) := by
 rw [tj, ha, Option.bind_some, hr]; rfl
theorem cy {i : Nat} {d : D} (h : env[i]? = some (some (.fix d))) : (eb M env)[i]? = some (.imm d) := by unfold eb; rw [List.getElem?_map, h]; rfl
theorem nB {M : Mem} {c : Cell} : (M ++ [c])[M.length]? = some c := by rw [List.getElem?_append_right (Nat.le_refl _), Nat.sub_self]; rfl
theorem Cu (P : Nat → Mem → aD → Prop) : ∃ Q, Q = P := ⟨P, rfl⟩
end
section
variable {N : List Str} {mf : MS} {M M1 M2 M3 M4 : Mem} {env : aD} {x y z u : MEC} {d1 d2 d3 d4 d : D}
theorem tw (hx : x M env = some (.fix d1, M1)) (hy : y M1 env = some (.fix d2, M2)) (hr : res N mf [.imm d1, .imm d2] [] = some (d, [])) : dB N 2 [0, 0] mf (bD x (bD y cI)) M env = some (.fix d, M2) :=
 jO (cs := [.fix d1, .fix d2]) (M1 := M2) (ss := [.imm d1, .imm d2]) (ds := []) (by rw [dE hx (dE hy (fW M2 _))]) rfl rfl rfl hr rfl
end
section
variable {M : Mem} {env : aD}
theorem fS {b : D} (hb : bP b) : ∃ c, cellOf b = some c ∧ c.flat = some b ∧ c.mut = true := by
 obtain ⟨ds, p, rfl⟩ := hb
 exact ⟨_, rfl, jY false _, rfl⟩
theorem xE {b : D} {many : Int} (hb : bP b) (hm : 0 < many) : ∃ (v : Nat) (x : D), (v : Int) < many ∧ bP x ∧ res bK bH [.io 0 b, .imm (.int many)] [0] = some (.int v, [x]) := by
 obtain ⟨fl, h1, h2⟩ := ri hb hm
 have h1 : bH ([.io 0 b, .imm (.int many)] ++ List.replicate (bK.length - 2) .un) = some fl := h1
 cases fl with
 | nx e => obtain ⟨x, _, v, hv, _⟩ := h2; cases hv
 | ret md d e =>
  obtain ⟨x, hx, v, rfl, h3, h4⟩ := h2
  refine ⟨v, x, h3, h4, ?_⟩
  unfold res gH
  rw [show ([.io 0 b, .imm (.int many)] : List Sl).length = 2 from rfl, h1]
  simp [kP, hx]
 | bk e => exact h2.elim
 | ct e => exact h2.elim
def et (M : Mem) : Prop := ∃ b c, bP b ∧ cellOf b = some c ∧ M[0]? = some c
theorem et.app {X : Mem} (h : et M) : et (M ++ X) := by
 obtain ⟨b, c, h1, h2, h3⟩ := h
 exact ⟨b, c, h1, h2, by rw [List.getElem?_append_left (List.getElem?_eq_some_iff.mp h3).1]; exact h3⟩
theorem et.set {p : Nat} {x : Cell} (h : et M) (hp : p ≠ 0) : et (M.set p x) := by
 obtain ⟨b, c, h1, h2, h3⟩ := h
 exact ⟨b, c, h1, h2, by rw [List.getElem?_set_ne hp]; exact h3⟩
theorem et.draw (h : et M) {x y : MEC} {many : Int} (hx : x M env = some (.at 0, M)) (hy : y M env = some (.fix (.int many), M)) (hm : 0 < many) :
  ∃ (v : Nat) (c' : Cell), (v : Int) < many ∧ et (M.set 0 c') ∧ dB bK 2 [2, 0] bH (bD x (bD y cI)) M env = some (.fix (.int v), M.set 0 c') := by
 obtain ⟨b, c, hb, hcb, hc⟩ := h
 obtain ⟨v, b', h1, h2, h3⟩ := xE hb hm
 obtain ⟨c', q1, q2, q3⟩ := fS h2
 obtain ⟨c0, q4, q5, q6⟩ := fS hb
 rw [hcb] at q4; cases q4
 have hl : 0 < M.length := (List.getElem?_eq_some_iff.mp hc).1
 refine ⟨v, c', h1, ⟨b', c', h2, q1, List.getElem?_set_self hl⟩, jO (cs := [.at 0, .fix (.int many)]) (M1 := M) (ss := [.io 0 b, .imm (.int many)]) (ds := [b']) (dE hx (dE hy (fW M env))) rfl ?_ ?_ h3 ?_⟩
 ·simp [okC, ioC, oy, mQ, mI]
 ·simp [dM, fc, hc, q5, q6]
 ·simp [ioC, gi, q1]
end
end Law
namespace Law
open PySem L2 Q
section
variable {M M1 : Mem} {env : aD} {Q : FlC → Prop}
abbrev eQ (TD LD : D) (L1 L2 : Nat) (s4 s5 s6 s7 s8 : Option aw) : aD := [some (.fix TD), some (.at L1), some (.at L2), some (.fix LD), s4, s5, s6, s7, s8]
theorem xU {j : Nat} {ds : List D} {lk : Bool} (h : M[j]? = some (.lst lk (ds.map .fix))) : rdC M (.at j) = some (.lst ds) := by
 show (M[j]?).bind Cell.flat = _
 rw [h]
 exact jY lk _
theorem tq {j v : Nat} {ds : List D} {lk : Bool} (hv : env[v]? = some (some (.at j))) (h : M[j]? = some (.lst lk (ds.map .fix))) : jK (de v) M env = some (.fix (.int (ds.length : Nat)), M) := by
 unfold jK
 rw [wB, hv]
 show Option.bind (some (aw.at j, M)) _ = _
 rw [Option.bind_some]
 dsimp only
 rw [h]
 dsimp only
 rw [List.length_map]
theorem oq {TD LD : D} {L1 L2 : Nat} {A B : List D} {x : List Nat} {W : List (List Nat)} {rv ov : D} {s4 s6 s7 s8 : Option aw} {rest : MSC} (hsp : cO (tx x) ⟨#[32]⟩ = some (.lst (sW W))) (h1 : M[L1]? = some (.lst false (A.map .fix))) (h2 : M[L2]? = some (.lst false (B.map .fix)))
  (hr : B = [] → res eU ee [.imm (.int (A.length : Nat)), .imm (.lst (sW W))] [] = some (rv, [])) (hr2 : B ≠ [] → rv = .non) (ho : res e9 eB [.imm (.int (B.length : Nat)), .imm (.lst (sW W))] [] = some (ov, []))
  (hQ : WC rest M (eQ TD LD L1 L2 s4 (some (.fix (.str (tx x)))) (some (.fix (.lst (sW W)))) (some (.fix rv)) (some (.fix ov))) Q) :
  WC (cY (eM (gNC 6) (bB (mM1 cO (au 5) (mC (.str " ")))))
  (cY (eM (gNC 7) (cIf (mO (de 2)) (bB (mC .non)) (dB eU 2 [0, 0] ee (bD (jK (de 1)) (bD (bB (au 6)) cI)))))
  (cY (eM (gNC 8) (dB e9 2 [0, 0] eB (bD (jK (de 2)) (bD (bB (au 6)) cI)))) rest))) M (eQ TD LD L1 L2 s4 (some (.fix (.str (tx x)))) s6 s7 s8) Q := by
 generalize sW W = WD at *
 generalize tx x = TX at *
 have A6 : bB (mM1 cO (au 5) (mC (.str " "))) M (eQ TD LD L1 L2 s4 (some (.fix (.str TX))) s6 s7 s8) = some (.fix (.lst WD), M) := by
  have z : (eb M (eQ TD LD L1 L2 s4 (some (.fix (.str TX))) s6 s7 s8))[5]? = some (.imm (.str TX)) := cy rfl
  have hs : cO TX " " = some (.lst WD) := hsp
  rw [ou]
  generalize eb M (eQ TD LD L1 L2 s4 (some (.fix (.str TX))) s6 s7 s8) = S at *
  simp -implicitDefEqProofs [mM1, z, hs]
 refine eh A6 (by show 6 < 9; decide) ?_
 show WC _ M (eQ TD LD L1 L2 s4 (some (.fix (.str TX))) (some (.fix (.lst WD))) s7 s8) _
 have A7 : cIf (mO (de 2)) (bB (mC .non)) (dB eU 2 [0, 0] ee (bD (jK (de 1)) (bD (bB (au 6)) cI))) M (eQ TD LD L1 L2 s4 (some (.fix (.str TX))) (some (.fix (.lst WD))) s7 s8) = some (.fix rv, M) := by
  have ht : ∀ b, dR (.lst B) = some b → mO (de 2) M (eQ TD LD L1 L2 s4 (some (.fix (.str TX))) (some (.fix (.lst WD))) s7 s8) = some (b, M) := fun b hb => by
   rw [xK, show de 2 M (eQ TD LD L1 L2 s4 (some (.fix (.str TX))) (some (.fix (.lst WD))) s7 s8) = some (.at L2, M) from rfl, Option.bind_some]
   dsimp only
   rw [xU h2, Option.bind_some, hb]; rfl
  unfold cIf
  cases hB : B with
  | nil =>
   rw [ht false (by rw [hB]; rfl), Option.bind_some]
   dsimp only
   rw [if_neg (by simp)]
   exact tw (N := eU) (mf := ee) (tq (v := 1) rfl h1) (y := bB (au 6)) (M2 := M) rfl (hr hB)
  | cons b B' =>
   rw [ht true (by rw [hB]; rfl), Option.bind_some]
   dsimp only
   rw [if_pos rfl, hr2 (by rw [hB]; simp)]
   rfl
 refine eh A7 (by show 7 < 9; decide) ?_
 show WC _ M (eQ TD LD L1 L2 s4 (some (.fix (.str TX))) (some (.fix (.lst WD))) (some (.fix rv)) s8) _
 refine eh (tw (N := e9) (mf := eB) (tq (v := 2) rfl h2) (y := bB (au 6)) (M2 := M) rfl ho) (by show 8 < 9; decide) ?_
 exact hQ
theorem Dg : ∀ j : Nat, j < 100 → (((j : Nat) : Int).natAbs.log2 < 1920 ∧ (Str.ofString (toString ((j : Nat) : Int))).length ≤ 1000) := by decide +kernel
theorem xI {j : Nat} (h : j < 100) : jX [.int (j : Nat)] = some [.int (j : Nat)] := by
 unfold jX Q.mkInt
 dsimp only
 rw [if_pos (Dg j h)]
def jc (R : List Rob) (a : Nat) (x : List Nat) : Prop := ∃ W : List (List Nat), cO (tx x) ⟨#[32]⟩ = some (.lst (sW W)) ∧ (a ≤ R.length → res eU ee [.imm (.int (a : Nat)), .imm (.lst (sW W))] [] = some (.non, [])) ∧ res e9 eB [.imm (.int ((a - R.length : Nat) : Int)), .imm (.lst (sW W))] [] = some (.non, [])
theorem wG {n : Nat} {r : Rob} (hn : n < 1000000) (hr : Rok r) : cO (tx (aB 32 (dh n r))) ⟨#[32]⟩ = some (.lst (sW (dh n r))) := by
 obtain ⟨a, b⟩ := j7 hn hr
 have := eR 32 13 _ b
 exact spl (by decide) (by simp [dh]) (fun w hw h => by have := rm n r w hw 32 h; omega) (by omega)
theorem xB {n : Nat} {o : Ord} (hn : n < 1000000) (ho : Ook o) : cO (tx (aB 32 (df n o))) ⟨#[32]⟩ = some (.lst (sW (df n o))) := by
 obtain ⟨a, b⟩ := jV hn ho
 have := eR 32 13 _ b
 exact spl (by decide) (by simp [df]) (fun w hw h => by have := qz n o w hw 32 h; omega) (by omega)
theorem p8 {R : List Rob} {O : List Ord} {k : Nat} {r : Rob} (h : R[k]? = some r) : (bt R ++ bz O)[k]? = some (aB 32 (dh k r)) := by
 have hk := (List.getElem?_eq_some_iff.mp h).1
 have hl : (bt R).length = R.length := by unfold bt; rw [List.length_mapIdx]
 rw [List.getElem?_append_left (by omega)]
 unfold bt
 rw [List.getElem?_mapIdx, h]; rfl
theorem pW {R : List Rob} {O : List Ord} {j : Nat} {o : Ord} (h : O[j]? = some o) : (bt R ++ bz O)[R.length + j]? = some (aB 32 (df j o)) := by
 have hl : (bt R).length = R.length := by unfold bt; rw [List.length_mapIdx]
 rw [List.getElem?_append_right (by omega), hl, Nat.add_sub_cancel_left]
 unfold bz
 rw [List.getElem?_mapIdx, h]; rfl
theorem fY {R : List Rob} {O : List Ord} : (bt R ++ bz O).length = R.length + O.length := by
 unfold bt bz
 rw [List.length_append, List.length_mapIdx, List.length_mapIdx]
theorem i5 {α : Type} {l : List α} {k : Nat} {x : α} (h : l[k]? = some x) : l.take (k + 1) = l.take k ++ [x] := by rw [List.take_add_one, h]; rfl
theorem qE (h0 : 0 < M.length) {R : List Rob} {O : List Ord} (hR : Rep R O) {TD : D} {K : List (List Nat)} {a : Nat} (hT : ∀ S : En, S[0]? = some (.imm TD) → mIf (bZ (af 0)) (mM1 cO (au 0) (mC (.str "\n"))) (b8 aN) S = some (.lst (sW K), S))
  (hK : ∀ k, k < a → K[k]? = (bt R ++ bz O)[k]?) (ha : a ≤ R.length + O.length) (hb : ∀ x, K[a]? = some x → jc R a x) (hKa : a ≤ K.length) (hKl : K.length ≤ 60) :
  WC fV M [some (.fix TD), none, none, none, none, none, none, none, none] (fun fl => (a < K.length → ∃ M' e, fl = .exc "LineError" ["line"] [.fix (.int ((a + 1 : Nat) : Int))] M' e ∧ M'[0]? = M[0]?) ∧ (a = K.length → ∃ v M' e, fl = .ret v M' e ∧ M'[0]? = M[0]?)) := by
 have hr1 := hR.rl
 have hr2 := hR.ol
 unfold fV
 obtain ⟨L1, hL1⟩ : ∃ x, x = M.length := ⟨_, rfl⟩
 obtain ⟨M1, hM1⟩ : ∃ X, X = M ++ [Cell.lst false []] := ⟨_, rfl⟩
 refine eh (v := .at L1) (M1 := M1) (by rw [hL1, hM1]; rfl) (by show 1 < 9; decide) ?_
 show WC _ M1 [some (.fix TD), some (.at L1), none, none, none, none, none, none, none] _
 have c1 : M1[L1]? = some (.lst false []) := by rw [hL1, hM1]; exact nB
 obtain ⟨L2, hL2⟩ : ∃ x, x = M1.length := ⟨_, rfl⟩
 obtain ⟨M2, hM2⟩ : ∃ X, X = M1 ++ [Cell.lst false []] := ⟨_, rfl⟩
 refine eh (v := .at L2) (M1 := M2) (by rw [hL2, hM2]; rfl) (by show 2 < 9; decide) ?_
 show WC _ M2 [some (.fix TD), some (.at L1), some (.at L2), none, none, none, none, none, none] _
 have hne : L1 ≠ L2 := by
  have := (List.getElem?_eq_some_iff.mp c1).1
  omega
 have c2 : M2[L2]? = some (.lst false []) := by rw [hL2, hM2]; exact nB
 have c1' : M2[L1]? = some (.lst false []) := by
  rw [hM2, List.getElem?_append_left (List.getElem?_eq_some_iff.mp c1).1]; exact c1
 refine eh (v := .fix (.lst (sW K))) (M1 := M2) (by rw [ou, hT _ (cy rfl)]; rfl) (by show 3 < 9; decide) ?_
 show WC _ M2 (eQ TD (.lst (sW K)) L1 L2 none none none none none) _
 have hit : pA (iEn (aj (au 3) aN)) M2 (eQ TD (.lst (sW K)) L1 L2 none none none none none) = some (([], (fC 0 (sW K)).map .fix), M2) := by rw [xW]; rfl
 obtain ⟨P, hP⟩ := Cu fun k M' e => k ≤ a ∧ ∃ s4 s5 s6 s7 s8, e = eQ TD (.lst (sW K)) L1 L2 s4 s5 s6 s7 s8 ∧ M'[L1]? = some (.lst false (((R.take k).map di).map .fix)) ∧ M'[L2]? = some (.lst false (((O.take (k - R.length)).map dm).map .fix)) ∧ M'[0]? = M[0]?
 have hp1 : L1 ≠ 0 := by omega
 have hp2 : L2 ≠ 0 := by rw [hL2, hM1, List.length_append]; simp
 refine yt ?_
 refine wH hit P (by
  rw [hP]
  refine ⟨Nat.zero_le _, none, none, none, none, none, rfl, ?_, ?_, by rw [hM2, hM1, List.append_assoc, List.getElem?_append_left h0]⟩
  ·rw [List.take_zero]; exact c1'
  ·rw [Nat.zero_sub, List.take_zero]; exact c2) ?_ ?_
 ·intro k cv M' e hcv hp
  rw [hP] at hp
  obtain ⟨hka, s4, s5, s6, s7, s8, rfl, m1, m2, m0⟩ := hp
  rw [List.getElem?_map] at hcv
  obtain ⟨d, hd, rfl⟩ := Option.map_eq_some_iff.mp hcv
  obtain ⟨d2, hd2, rfl⟩ := ja _ _ _ _ hd
  rw [Nat.zero_add]
  rw [List.getElem?_map] at hd2
  obtain ⟨x, hx, rfl⟩ := Option.map_eq_some_iff.mp hd2
  have hkl := (List.getElem?_eq_some_iff.mp hx).1
  refine ⟨eQ TD (.lst (sW K)) L1 L2 (some (.fix (.int (k : Nat)))) (some (.fix (.str (tx x)))) s6 s7 s8, rfl, ?_⟩
  have lA : k ≤ R.length → ((R.take k).map di).length = k := fun h => by rw [List.length_map, List.length_take]; omega
  have lB : k ≤ R.length + O.length → ((O.take (k - R.length)).map dm).length = k - R.length := fun h => by rw [List.length_map, List.length_take]; omega
  by_cases hak : k = a
  ·-- the line that is not the next one
   subst hak
   obtain ⟨W, b1, b2, b3⟩ := hb x hx
   have lB := lB ha
   refine oq b1 m1 m2 (rv := .non) (ov := .non) (fun hB => ?_) (fun _ => rfl) (by rw [lB]; exact b3) ?_
   ·have : k ≤ R.length := by
     have h0 := congrArg List.length hB
     rw [lB] at h0
     simp at h0
     omega
    rw [lA this]
    exact b2 this
   ·refine ki (p := false) (M1 := M') rfl (fun h => by cases h) (fun _ => ?_)
    refine ki (p := false) (M1 := M') rfl (fun h => by cases h) (fun _ => ?_)
    refine ⟨.exc "LineError" ["line"] [.fix (.int ((k + 1 : Nat) : Int))] M' (eQ TD (.lst (sW K)) L1 L2 (some (.fix (.int (k : Nat)))) (some (.fix (.str (tx x)))) (some (.fix (.lst (sW W)))) (some (.fix .non)) (some (.fix .non))), ?_, ?_⟩
    ·have ha : bB (ae aK (af 4) (aa (mC (.int 1)))) M' (eQ TD (.lst (sW K)) L1 L2 (some (.fix (.int (k : Nat)))) (some (.fix (.str (tx x)))) (some (.fix (.lst (sW W)))) (some (.fix .non)) (some (.fix .non))) = some (.fix (.int ((k + 1 : Nat) : Int)), M') := rfl
     unfold nC
     rw [dE ha (fW M' _), Option.bind_some]
     show Option.bind (some [D.int ((k + 1 : Nat) : Int)]) _ = _
     rw [Option.bind_some]
     dsimp only
     rw [if_pos ⟨rfl, by show 1 ≤ 1000; decide⟩]
     show Option.map _ (jX [.int ((k + 1 : Nat) : Int)]) = _
     rw [xI (by omega)]
     rfl
    ·exact ⟨fun _ => ⟨_, _, rfl, m0⟩, fun h => absurd hkl (by omega)⟩
  ·have hlt : k < a := by omega
   have hx2 := hK k hlt
   rw [hx] at hx2
   by_cases hkr : k < R.length
   ·-- a robot
    have hr := List.getElem?_eq_getElem hkr
    have hl := p8 (O := O) hr
    rw [hl] at hx2
    cases hx2
    have hrk : Rok R[k] := hR.r _ (List.getElem_mem hkr)
    have hB0 : (O.take (k - R.length)).map dm = [] := by rw [show k - R.length = 0 by omega]; rfl
    have hon := uM 0 k R[k]
    refine oq (wG (n := k) (r := R[k]) (by omega) hrk) m1 m2 (rv := di R[k]) (ov := .non) (fun _ => by rw [lA (by omega)]; exact uB k R[k] (by omega) hrk) (fun h => absurd hB0 h) (by rw [hB0]; exact hon) ?_
    refine ki (p := true) (M1 := M') rfl (fun _ => ?_) (fun h => by cases h)
    have happ := tP (o := de 1) (e := bB (au 7)) (j := L1) (M := M') (M1 := M') (M2 := M') (env := eQ TD (.lst (sW K)) L1 L2 (some (.fix (.int (k : Nat)))) (some (.fix (.str (tx (aB 32 (dh k R[k])))))) (some (.fix (.lst (sW (dh k R[k]))))) (some (.fix (di R[k]))) (some (.fix .non))) (y := .fix (di R[k])) rfl m1 rfl m1 (szL (by rw [List.length_map, lA (by omega)]; omega)) rfl
    refine ⟨_, happ, ?_⟩
    show P _ _ _
    rw [hP]
    refine ⟨by omega, _, _, _, _, _, rfl, ?_, ?_, by rw [List.getElem?_set_ne hp1, m0]⟩
    ·rw [List.getElem?_set_self (List.getElem?_eq_some_iff.mp m1).1, i5 hr, List.map_append, List.map_append]; rfl
    ·rw [List.getElem?_set_ne hne, m2, show k + 1 - R.length = 0 by omega, show k - R.length = 0 by omega]
   ·-- an order
    obtain ⟨j, rfl⟩ : ∃ j, k = R.length + j := ⟨k - R.length, by omega⟩
    have hj : j < O.length := by omega
    have ho := List.getElem?_eq_getElem hj
    have hl := pW (R := R) ho
    rw [hl] at hx2
    cases hx2
    have hok : Ook O[j] := hR.o _ (List.getElem_mem hj)
    have hsub : R.length + j - R.length = j := by omega
    rw [hsub] at m2
    have lB := lB (by omega)
    rw [hsub] at lB
    refine oq (xB (n := j) (o := O[j]) (by omega) hok) m1 m2 (rv := .non) (ov := dm O[j]) (fun _ => uz _ j O[j]) (fun _ => rfl) (by rw [lB]; exact uJ j O[j] (by omega) hok) ?_
    refine ki (p := false) (M1 := M') rfl (fun h => by cases h) (fun _ => ?_)
    refine ki (p := true) (M1 := M') rfl (fun _ => ?_) (fun h => by cases h)
    have happ := tP (o := de 2) (e := bB (au 8)) (j := L2) (M := M') (M1 := M') (M2 := M') (env := eQ TD (.lst (sW K)) L1 L2 (some (.fix (.int ((R.length + j : Nat) : Int)))) (some (.fix (.str (tx (aB 32 (df j O[j])))))) (some (.fix (.lst (sW (df j O[j]))))) (some (.fix .non)) (some (.fix (dm O[j])))) (y := .fix (dm O[j])) rfl m2 rfl m2 (szL (by rw [List.length_map, lB]; omega)) rfl
    refine ⟨_, happ, ?_⟩
    show P _ _ _
    rw [hP]
    refine ⟨by omega, _, _, _, _, _, rfl, ?_, ?_, by rw [List.getElem?_set_ne hp2, m0]⟩
    ·rw [List.getElem?_set_ne (fun z => hne z.symm), m1, List.take_of_length_le (by omega), List.take_of_length_le (by omega)]
    ·rw [List.getElem?_set_self (List.getElem?_eq_some_iff.mp m2).1, show R.length + j + 1 - R.length = j + 1 by omega, i5 ho, List.map_append, List.map_append]; rfl
 ·intro M' e hp
  rw [hP, List.length_map, fh, List.length_map] at hp
  obtain ⟨hka, s4, s5, s6, s7, s8, rfl, m1, m2, m0⟩ := hp
  show WC (gK (sk (bD (de 1) (bD (de 2) cI)))) M' _ _
  refine l0 (v := .tup [.at L1, .at L2]) (M1 := M') rfl ⟨fun h => by omega, fun _ => ⟨_, _, _, rfl, m0⟩⟩
end
end Law
namespace Law
open PySem L2 Q
theorem dW {a b : List Nat} (h : a.length + b.length ≤ 9000) : aK (.str (tx a)) (.str (tx b)) = some (.str (tx (a ++ b))) := by
 rw [add_str, if_pos (szS (by rw [dA, dA]; omega)), kG]
theorem iE (c : Nat) (w : List Nat) : ∀ L : List (List Nat), L ≠ [] → aB c (L ++ [w]) = aB c L ++ c :: w
 | [], h => absurd rfl h
 | [a], _ => rfl
 | a :: b :: r, _ => by
  show a ++ c :: aB c ((b :: r) ++ [w]) = (a ++ c :: aB c (b :: r)) ++ c :: w
  rw [iE c w (b :: r) (by simp), List.append_assoc]; rfl
theorem qJ (p : Option (Nat × Nat)) (hp : ∀ q, p = some q → Pok q) : res fU fR [.imm (bR p)] [] = some (.str (tx (plW p)), []) := by
 refine cg ?_
 unfold fR
 have ed : ("depot" : Str) = tx dep := rfl
 have ec : (":" : Str) = tx [58] := rfl
 rw [ed, ec]
 cases p with
 | none => simp -implicitDefEqProofs [bR, plW]
 | some q =>
  obtain ⟨a, b⟩ := q
  obtain ⟨h1, h2⟩ := hp _ rfl
  have h1 : a < 16 := h1
  have h2 : b < 16 := h2
  have l1 := (cV (n := a) (by omega)).2
  have l2 := (cV (n := b) (by omega)).2
  have T : aq (ae (dIs false) (af 0) (aa (mC .non))) [.imm (pD (a, b))] = some (false, [.imm (pD (a, b))]) := rfl
  have i0 : dIx (pD (a, b)) (.int 0) = some (.int (a : Nat)) := rfl
  have i1 : dIx (pD (a, b)) (.int 1) = some (.int (b : Nat)) := rfl
  have s0 := gZ (n := a) (by omega)
  have s1 := gZ (n := b) (by omega)
  have p1 := dW (a := fg a) (b := [58]) (by simp; omega)
  have p2 := dW (a := fg a ++ [58]) (b := fg b) (by simp; omega)
  have e : fg a ++ [58] ++ fg b = plW (some (a, b)) := by simp [plW]
  rw [e] at p2
  show W _ [.imm (pD (a, b))] _
  rw [aE, bI, T, ai, if_neg (by simp), bA, ay, cz]
  generalize pD (a, b) = PD at *
  generalize tx (plW (some (a, b))) = RT at *
  generalize tx (fg a ++ [58]) = T2 at *
  generalize tx (fg a) = TA at *
  generalize tx (fg b) = TB at *
  generalize tx [58] = TC at *
  simp -implicitDefEqProofs only [aW, dZ, cF, cS, b0, cj, aL, aP, bp, List.getElem?_cons_zero, Option.bind_some, Option.map_some, aV, get_slot, aO, i0, i1, s0, s1, p1, p2, ai, cK, ck]
  exact ⟨trivial, trivial⟩
theorem ql (w : List (Nat × Nat)) : bT [.lst (w.map pD)] = some (.int (w.length : Nat)) := by rw [eJ, List.length_map]
def SW (ws : List (List Nat)) : List Nat := (ws.map fun v => 32 :: v).flatten
theorem eY : SW [] = [] := rfl
theorem cJ (a : List Nat) (r : List (List Nat)) : SW (a :: r) = 32 :: a ++ SW r := by unfold SW; rw [List.map_cons, List.flatten_cons]
theorem nF (a b : List (List Nat)) : SW (a ++ b) = SW a ++ SW b := by unfold SW; rw [List.map_append, List.flatten_append]
theorem pJ (a : List Nat) : ∀ ws : List (List Nat), aB 32 (a :: ws) = a ++ SW ws := by
 have key : ∀ (V L : List (List Nat)), L ≠ [] → aB 32 (L ++ V) = aB 32 L ++ SW V := by
  intro V
  induction V with
  | nil => intro L _; rw [List.append_nil, eY, List.append_nil]
  | cons v V ih =>
   intro L hL
   rw [show L ++ v :: V = (L ++ [v]) ++ V by simp, ih _ (by simp), iE _ _ _ hL, cJ, List.append_assoc]
 exact fun ws => key ws [a] (by simp)
theorem sE {ws : List (List Nat)} (h : ∀ w ∈ ws, w.length ≤ 13) : (SW ws).length ≤ 14 * ws.length := by
 induction ws with
 | nil => exact Nat.zero_le _
 | cons a r ih =>
  have h1 := h a List.mem_cons_self
  have h2 := ih fun w hw => h w (List.mem_cons_of_mem _ hw)
  rw [cJ, List.length_append, List.length_cons, List.length_cons]
  omega
theorem xc (n : Nat) (r : Rob) (hn : n < 1000000) (hr : Rok r) : res mv mq [.imm (.int (n : Nat)), .imm (di r)] [] = some (.str (tx (aB 32 (dh n r))), []) := by
 refine cg ?_
 unfold mq
 have e1 : ("robot " : Str) = tx (RB ++ [32]) := rfl
 have e2 : (" " : Str) = tx [32] := rfl
 have e3 : (" broken" : Str) = tx (32 :: BR) := rfl
 have e4 : (" runs" : Str) = tx (32 :: RU) := rfl
 have e5 : (" loaded " : Str) = tx (32 :: LD ++ [32]) := rfl
 have e6 : (" empty " : Str) = tx (32 :: EM ++ [32]) := rfl
 have e7 : (" way" : Str) = tx (32 :: WY) := rfl
 rw [e1, e2, e3, e4, e5, e6, e7]
 obtain ⟨pl, br, o, l, w⟩ := r
 have hp : ∀ q, pl = some q → Pok q := hr.p
 have he : Eok ⟨o, l, w⟩ := hr.e
 have lw := qJ pl hp
 have hw : ∀ p ∈ w, Pok p := he.w
 have hwl : w.length ≤ 100 := he.n
 have lpl : (plW pl).length ≤ 13 := jD hp
 have lfg := (cV hn).2
 obtain ⟨RD, hRD⟩ : ∃ X, X = di ⟨pl, br, ⟨o, l, w⟩⟩ := ⟨_, rfl⟩
 have i0 : dIx RD (.int 0) = some (bR pl) := by rw [hRD]; rfl
 have i1 : dIx RD (.int 1) = some (.bl br) := by rw [hRD]; rfl
 have i2 : dIx RD (.int 2) = some (orD o) := by rw [hRD]; rfl
 have i3 : dIx RD (.int 3) = some (.bl l) := by rw [hRD]; rfl
 have i4 : dIx RD (.int 4) = some (.lst (w.map pD)) := by rw [hRD]; rfl
 rw [← hRD]
 obtain ⟨A, hA⟩ : ∃ X, X = RB ++ [32] ++ fg n ++ [32] ++ plW pl := ⟨_, rfl⟩
 have lA : A.length ≤ 26 := by rw [hA]; simp only [List.length_append, List.length_cons, List.length_nil]; omega
 have A2 : ae aK (aa (ae aK (aa (ae aK (aa (mC (.str (tx (RB ++ [32]))))) (aa (mBi dF (aM (af 0) aY))))) (aa (mC (.str (tx [32])))))) (aa (ak fU 1 fR (aC (ae dIx (af 1) (aa (mC (.int 0)))) aA))) [.imm (.int (n : Nat)), .imm RD, .un, .un] = some (.str (tx A), [.imm (.int (n : Nat)), .imm RD, .un, .un]) := by
  have c1 : ak fU 1 fR (aC (ae dIx (af 1) (aa (mC (.int 0)))) aA) [.imm (.int (n : Nat)), .imm RD, .un, .un] = some (.str (tx (plW pl)), [.imm (.int (n : Nat)), .imm RD, .un, .un]) := by
   generalize bR pl = PD at *
   generalize tx (plW pl) = TP at *
   rw [cU]
   simp -implicitDefEqProofs [i0, lw]
  have s0 := gZ hn
  have p1 := dW (a := RB ++ [32]) (b := fg n) (by simp only [List.length_append, List.length_cons, List.length_nil]; omega)
  have p2 := dW (a := RB ++ [32] ++ fg n) (b := [32]) (by simp only [List.length_append, List.length_cons, List.length_nil]; omega)
  have p3 := dW (a := RB ++ [32] ++ fg n ++ [32]) (b := plW pl) (by simp only [List.length_append, List.length_cons, List.length_nil]; omega)
  rw [← hA] at p3
  generalize ak fU 1 fR (aC (ae dIx (af 1) (aa (mC (.int 0)))) aA) = m at *
  generalize tx (RB ++ [32] ++ fg n ++ [32]) = t3 at *
  generalize tx (RB ++ [32] ++ fg n) = t2 at *
  generalize tx (RB ++ [32]) = t1 at *
  generalize tx (plW pl) = t4 at *
  generalize tx A = t5 at *
  generalize tx (fg n) = t6 at *
  generalize tx [32] = t7 at *
  simp -implicitDefEqProofs only [aW, dZ, cF, cS, b0, cj, aL, aP, bp, List.getElem?_cons_zero, Option.bind_some, Option.map_some, aV, get_slot, aO, s0, p1, p2, p3, c1]
 rw [aE, bQ]
 show Gt (ae _ _ _ [.imm (.int (n : Nat)), .imm RD, .un, .un]) _
 rw [A2, ai]
 refine ⟨by show 2 < 4; decide, ?_⟩
 rw [ay, aE]
 show W (bx _ _ _) [.imm (.int (n : Nat)), .imm RD, .imm (.str (tx A)), .un] _
 -- line + more
 have plus : ∀ (X b : List Nat) (s3 : Sl), X.length + b.length ≤ 9000 → ae aK (af 2) (aa (mC (.str (tx b)))) [.imm (.int (n : Nat)), .imm RD, .imm (.str (tx X)), s3] = some (.str (tx (X ++ b)), [.imm (.int (n : Nat)), .imm RD, .imm (.str (tx X)), s3]) := fun X b s3 h => by
  have p := dW (a := X) (b := b) h
  generalize tx (X ++ b) = t1 at *
  generalize tx X = t2 at *
  generalize tx b = t3 at *
  simp -implicitDefEqProofs only [aW, aL, aP, bp, List.getElem?_cons_succ, List.getElem?_cons_zero, Option.bind_some, Option.map_some, aV, get_slot, aO, p]
 obtain ⟨B, hB⟩ : ∃ X, X = A ++ 32 :: brW br := ⟨_, rfl⟩
 have lB : B.length ≤ 40 := by
  have := qv br
  rw [hB, List.length_append, List.length_cons]; omega
 have T1 : bZ (aa (ae dIx (af 1) (aa (mC (.int 1))))) [.imm (.int (n : Nat)), .imm RD, .imm (.str (tx A)), .un] = some (br, [.imm (.int (n : Nat)), .imm RD, .imm (.str (tx A)), .un]) := by
  have tb : dR (.bl br) = some br := rfl
  simp -implicitDefEqProofs only [fL, aW, aL, aP, bp, List.getElem?_cons_succ, List.getElem?_cons_zero, Option.bind_some, Option.map_some, aV, get_slot, aO, i1, tb]
 have st2 : ∀ {rest : MS} {Q : Fl → Prop}, W rest [.imm (.int (n : Nat)), .imm RD, .imm (.str (tx B)), .un] Q → W (bx (bZ (aa (ae dIx (af 1) (aa (mC (.int 1)))))) (bL 2 (ae aK (af 2) (aa (mC (.str (tx (32 :: BR))))))) (bL 2 (ae aK (af 2) (aa (mC (.str (tx (32 :: RU)))))))) [.imm (.int (n : Nat)), .imm RD, .imm (.str (tx A)), .un] (sqK rest Q) := fun {rest Q} hQ => by
  rw [bI, T1, ai]
  cases hbr : br with
  | true =>
   rw [if_pos rfl, bQ, plus A (32 :: BR) .un (by simp only [List.length_cons, List.length_nil]; omega), ai]
   refine ⟨by show 2 < 4; decide, ?_⟩
   rw [ay]
   have : A ++ 32 :: BR = B := by rw [hB, hbr]; rfl
   rw [this]; exact hQ
  | false =>
   rw [if_neg (by simp), bQ, plus A (32 :: RU) .un (by simp only [List.length_cons, List.length_nil]; omega), ai]
   refine ⟨by show 2 < 4; decide, ?_⟩
   rw [ay]
   have : A ++ 32 :: RU = B := by rw [hB, hbr]; rfl
   rw [this]; exact hQ
 refine st2 ?_
 -- the order
 obtain ⟨C, hC⟩ : ∃ X, X = B ++ SW (shW l o) := ⟨_, rfl⟩
 have lsh := lW (b := l) (o := o) he.o
 have lC : C.length ≤ 80 := by
  have := sE lsh.2
  have := lsh.1
  rw [hC, List.length_append]; omega
 have N2 : aq (ae (dIs true) (aa (ae dIx (af 1) (aa (mC (.int 2))))) (aa (mC .non))) [.imm (.int (n : Nat)), .imm RD, .imm (.str (tx B)), .un] = some (o.isSome, [.imm (.int (n : Nat)), .imm RD, .imm (.str (tx B)), .un]) := by
  have hi : dIs true (orD o) .non = some (.bl o.isSome) := by cases o <;> rfl
  generalize orD o = OD at *
  simp -implicitDefEqProofs only [cu, aW, aL, aP, bp, List.getElem?_cons_succ, List.getElem?_cons_zero, Option.bind_some, Option.map_some, aV, get_slot, aO, i2, hi]
 have N3 : bZ (aa (ae dIx (af 1) (aa (mC (.int 3))))) [.imm (.int (n : Nat)), .imm RD, .imm (.str (tx B)), .un] = some (l, [.imm (.int (n : Nat)), .imm RD, .imm (.str (tx B)), .un]) := by
  have tb : dR (.bl l) = some l := rfl
  simp -implicitDefEqProofs only [fL, aW, aL, aP, bp, List.getElem?_cons_succ, List.getElem?_cons_zero, Option.bind_some, Option.map_some, aV, get_slot, aO, i3, tb]
 have T3 : fb (aq (ae (dIs true) (aa (ae dIx (af 1) (aa (mC (.int 2))))) (aa (mC .non)))) (bZ (aa (ae dIx (af 1) (aa (mC (.int 3)))))) [.imm (.int (n : Nat)), .imm RD, .imm (.str (tx B)), .un] = some (o.isSome && l, [.imm (.int (n : Nat)), .imm RD, .imm (.str (tx B)), .un]) := by
  rw [kZ, N2, Option.bind_some]
  dsimp only
  rw [N3]
  cases o.isSome <;> rfl
 have two : ∀ (m : Nat) (v : List Nat), m < 1000000 → v.length ≤ 13 → o = some m → ae aK (aa (ae aK (af 2) (aa (mC (.str (tx (32 :: v ++ [32]))))))) (aa (mBi dF (aM (aa (ae dIx (af 1) (aa (mC (.int 2))))) aY))) [.imm (.int (n : Nat)), .imm RD, .imm (.str (tx B)), .un] = some (.str (tx (B ++ (32 :: v ++ [32]) ++ fg m)), [.imm (.int (n : Nat)), .imm RD, .imm (.str (tx B)), .un]) := fun m v hm hv ho => by
  have s0 := gZ hm
  have i2 : dIx RD (.int 2) = some (.int (m : Nat)) := by rw [i2, ho]; rfl
  have lm := (cV hm).2
  have p1 := plus B (32 :: v ++ [32]) .un (by simp only [List.length_append, List.length_cons, List.length_nil]; omega)
  have p2 := dW (a := B ++ (32 :: v ++ [32])) (b := fg m) (by simp only [List.length_append, List.length_cons, List.length_nil]; omega)
  generalize ae aK (af 2) (aa (mC (.str (tx (32 :: v ++ [32]))))) = m1 at *
  generalize tx (B ++ (32 :: v ++ [32]) ++ fg m) = t1 at *
  generalize tx (B ++ (32 :: v ++ [32])) = t2 at *
  generalize tx (fg m) = t3 at *
  generalize tx B = t4 at *
  simp -implicitDefEqProofs only [aW, dZ, cF, cS, b0, cj, aL, aP, bp, List.getElem?_cons_succ, List.getElem?_cons_zero, Option.bind_some, Option.map_some, aV, get_slot, aO, p1, i2, s0, p2]
 have st3 : ∀ {rest : MS} {Q : Fl → Prop}, W rest [.imm (.int (n : Nat)), .imm RD, .imm (.str (tx C)), .un] Q → W (bx (fb (aq (ae (dIs true) (aa (ae dIx (af 1) (aa (mC (.int 2))))) (aa (mC .non)))) (bZ (aa (ae dIx (af 1) (aa (mC (.int 3)))))))
  (bL 2 (ae aK (aa (ae aK (af 2) (aa (mC (.str (tx (32 :: LD ++ [32]))))))) (aa (mBi dF (aM (aa (ae dIx (af 1) (aa (mC (.int 2))))) aY)))))
  (bx (aq (ae (dIs true) (aa (ae dIx (af 1) (aa (mC (.int 2))))) (aa (mC .non))))
  (bL 2 (ae aK (aa (ae aK (af 2) (aa (mC (.str (tx (32 :: EM ++ [32]))))))) (aa (mBi dF (aM (aa (ae dIx (af 1) (aa (mC (.int 2))))) aY)))))
  bC)) [.imm (.int (n : Nat)), .imm RD, .imm (.str (tx B)), .un] (sqK rest Q) := fun {rest Q} hQ => by
  rw [bI, T3, ai]
  cases ho : o with
  | none =>
   rw [if_neg (by simp), bI, N2, ai, ho, if_neg (by simp), bA, ay]
   have : C = B := by rw [hC, ho]; show B ++ SW [] = B; rw [eY, List.append_nil]
   rw [← this]; exact hQ
  | some m =>
   have hm := he.o m ho
   cases hl : l with
   | true =>
    rw [if_pos (by rfl), bQ, two m LD hm (by decide) ho, ai]
    refine ⟨by show 2 < 4; decide, ?_⟩
    rw [ay]
    have : B ++ (32 :: LD ++ [32]) ++ fg m = C := by rw [hC, ho, hl]; show _ = B ++ SW [LD, fg m]; rw [cJ, cJ, eY]; simp
    rw [this]; exact hQ
   | false =>
    rw [if_neg (by simp), bI, N2, ai, ho, if_pos (by rfl), bQ, two m EM hm (by decide) ho, ai]
    refine ⟨by show 2 < 4; decide, ?_⟩
    rw [ay]
    have : B ++ (32 :: EM ++ [32]) ++ fg m = C := by rw [hC, ho, hl]; show _ = B ++ SW [EM, fg m]; rw [cJ, cJ, eY]; simp
    rw [this]; exact hQ
 rw [aE]
 refine st3 ?_
 -- the way
 have hfin : aB 32 (dh n ⟨pl, br, ⟨o, l, w⟩⟩) = C ++ SW (dO w) := by
  show aB 32 (RB :: ([fg n, plW pl, brW br] ++ (shW l o ++ dO w))) = _
  rw [pJ, nF, nF, hC, hB, hA, cJ, cJ, cJ, eY]
  simp
 rw [hfin]
 have hlw := ql w
 have T4 : aq (ae dGt (aa (mBi bT (aM (aa (ae dIx (af 1) (aa (mC (.int 4))))) aY))) (aa (mC (.int 0)))) [.imm (.int (n : Nat)), .imm RD, .imm (.str (tx C)), .un] = some (decide (0 < w.length), [.imm (.int (n : Nat)), .imm RD, .imm (.str (tx C)), .un]) := by
  have hg : dGt (.int (w.length : Nat)) (.int 0) = some (.bl (decide (0 < w.length))) := by
   show some (D.bl (decide (((w.length : Nat) : Int) > 0))) = _
   by_cases h : 0 < w.length
   ·have : ((w.length : Nat) : Int) > 0 := by omega
    simp [h, this]
   ·have : ¬ ((w.length : Nat) : Int) > 0 := by omega
    simp [h, this]
  generalize w.map pD = WD at *
  simp -implicitDefEqProofs only [cu, aW, dZ, cF, cS, b0, cj, aL, aP, bp, List.getElem?_cons_succ, List.getElem?_cons_zero, Option.bind_some, Option.map_some, aV, get_slot, aO, i4, hlw, hg]
 rw [aE, bI, T4, ai]
 by_cases h0 : 0 < w.length
 ·rw [decide_eq_true h0, if_pos rfl, aE, bQ, plus C (32 :: WY) .un (by simp only [List.length_cons, List.length_nil]; omega), ai]
  refine ⟨by show 2 < 4; decide, ?_⟩
  rw [ay]
  show W (eT _ _ _) [.imm (.int (n : Nat)), .imm RD, .imm (.str (tx (C ++ 32 :: WY))), .un] _
  have hit : eA (ae dIx (af 1) (aa (mC (.int 4)))) [.imm (.int (n : Nat)), .imm RD, .imm (.str (tx (C ++ 32 :: WY))), .un] = some (w.map pD, [.imm (.int (n : Nat)), .imm RD, .imm (.str (tx (C ++ 32 :: WY))), .un]) := by
   generalize tx (C ++ 32 :: WY) = t1 at *
   generalize w.map pD = WD at *
   simp -implicitDefEqProofs [i4]
  have hww : ∀ k, ∀ v ∈ (w.take k).map (fun p => plW (some p)), v.length ≤ 13 := fun k v hv => by
   obtain ⟨p, hp, rfl⟩ := List.mem_map.mp hv
   exact jD (p := some p) fun q e => by cases e; exact hw p (List.mem_of_mem_take hp)
  obtain ⟨P, hP⟩ := inv fun k e => ∃ s3, e = [.imm (.int (n : Nat)), .imm RD, .imm (.str (tx (C ++ 32 :: WY ++ SW ((w.take k).map fun p => plW (some p))))), s3]
  refine mW hit P (by rw [hP]; exact ⟨_, by rw [List.take_zero]; show _ = [_, _, Sl.imm (.str (tx (C ++ 32 :: WY ++ SW []))), _]; rw [eY, List.append_nil]⟩) ?_ ?_
  ·intro k d e hd hp
   rw [hP] at hp
   obtain ⟨s3, rfl⟩ := hp
   rw [List.getElem?_map] at hd
   obtain ⟨q, hq, rfl⟩ := Option.map_eq_some_iff.mp hd
   have hqk : Pok q := hw q (List.mem_of_getElem? hq)
   have lq := qJ (some q) fun x e => by cases e; exact hqk
   have lq : res fU fR [.imm (pD q)] [] = some (.str (tx (plW (some q))), []) := lq
   have llq := jD (p := some q) fun x e => by cases e; exact hqk
   have hSl := sE (hww k)
   rw [List.length_map, List.length_take] at hSl
   obtain ⟨X, hX⟩ : ∃ X, X = C ++ 32 :: WY ++ SW ((w.take k).map fun p => plW (some p)) := ⟨_, rfl⟩
   have lX : X.length ≤ 1600 := by
    rw [hX]
    simp only [List.length_append, List.length_cons, List.length_nil]
    omega
   rw [← hX]
   refine ⟨[.imm (.int (n : Nat)), .imm RD, .imm (.str (tx X)), .imm (pD q)], by simp -implicitDefEqProofs, ?_⟩
   have p1 := plus X [32] (.imm (pD q)) (by simp only [List.length_cons, List.length_nil]; omega)
   have p2 := dW (a := X ++ [32]) (b := plW (some q)) (by simp only [List.length_append, List.length_cons, List.length_nil]; omega)
   have AW : ae aK (aa (ae aK (af 2) (aa (mC (.str (tx [32])))))) (aa (ak fU 1 fR (fo 3 aA))) [.imm (.int (n : Nat)), .imm RD, .imm (.str (tx X)), .imm (pD q)] = some (.str (tx (X ++ [32] ++ plW (some q))), [.imm (.int (n : Nat)), .imm RD, .imm (.str (tx X)), .imm (pD q)]) := by
    have c1 : ak fU 1 fR (fo 3 aA) [.imm (.int (n : Nat)), .imm RD, .imm (.str (tx X)), .imm (pD q)] = some (.str (tx (plW (some q))), [.imm (.int (n : Nat)), .imm RD, .imm (.str (tx X)), .imm (pD q)]) := by
     generalize tx (plW (some q)) = t1 at *
     generalize tx X = t2 at *
     rw [cU]
     simp -implicitDefEqProofs [lq]
    generalize ae aK (af 2) (aa (mC (.str (tx [32])))) = m1 at *
    generalize ak fU 1 fR (fo 3 aA) = m2 at *
    generalize tx (X ++ [32] ++ plW (some q)) = t1 at *
    generalize tx (X ++ [32]) = t2 at *
    generalize tx X = t3 at *
    generalize tx (plW (some q)) = t4 at *
    simp -implicitDefEqProofs only [aW, aP, Option.bind_some, Option.map_some, aO, p1, c1, p2]
   rw [bQ, AW, ai]
   refine ⟨by show 2 < 4; decide, ?_⟩
   rw [wm, hP]
   refine ⟨.imm (pD q), ?_⟩
   have : X ++ [32] ++ plW (some q) = C ++ 32 :: WY ++ SW ((w.take (k + 1)).map fun p => plW (some p)) := by
    rw [hX, i5 hq, List.map_append, nF, List.map_cons, List.map_nil, cJ, eY]
    simp
   rw [← this]; rfl
  ·intro e hp
   rw [hP, List.length_map, List.take_length] at hp
   obtain ⟨s3, rfl⟩ := hp
   rw [ay]
   have : C ++ 32 :: WY ++ SW (w.map fun p => plW (some p)) = C ++ SW (dO w) := by
    cases w with
    | nil => exact absurd h0 (by simp)
    | cons p w => show _ = C ++ SW (WY :: (p :: w).map fun p => plW (some p)); rw [cJ]; simp
   rw [this]
   generalize tx (C ++ SW (dO w)) = t1
   simp -implicitDefEqProofs
 ·have hw0 : w = [] := List.eq_nil_of_length_eq_zero (by omega)
  have : SW (dO w) = [] := by rw [hw0]; rfl
  rw [decide_eq_false h0, if_neg (by simp), bA, ay, this, List.append_nil]
  generalize tx C = t1
  simp -implicitDefEqProofs
end Law
namespace Law
open PySem L2 Q
theorem wN (n : Nat) (o : Ord) (hn : n < 1000000) (ho : Ook o) : res mD mK [.imm (.int (n : Nat)), .imm (dm o)] [] = some (.str (tx (aB 32 (df n o))), []) := by
 refine cg ?_
 unfold mK
 have e1 : ("order " : Str) = tx (OR ++ [32]) := rfl
 have e2 : (" " : Str) = tx [32] := rfl
 have e3 : (" done" : Str) = tx (32 :: DN) := rfl
 have e4 : (" waits" : Str) = tx (32 :: WT) := rfl
 have e5 : (" loaded " : Str) = tx (32 :: LD ++ [32]) := rfl
 have e6 : (" empty " : Str) = tx (32 :: EM ++ [32]) := rfl
 rw [e1, e2, e3, e4, e5, e6]
 obtain ⟨os, og, st⟩ := o
 have hst : sx st := ho.st
 have lfg := (cV hn).2
 obtain ⟨d1, d2, d3, hd⟩ : ∃ d1 d2 d3, iT st = [d1, d2, d3] := by cases st <;> exact ⟨_, _, _, rfl⟩
 obtain ⟨RD, hRD⟩ : ∃ X, X = dm ⟨os, og, st⟩ := ⟨_, rfl⟩
 have hR2 : RD = .tup [.str (tx [65 + os]), .str (tx [65 + og]), d1, d2, d3] := by
  rw [hRD]; show D.tup ([_, _] ++ iT st) = _; rw [hd]; rfl
 have i0 : dIx RD (.int 0) = some (.str (tx [65 + os])) := by rw [hR2]; rfl
 have i1 : dIx RD (.int 1) = some (.str (tx [65 + og])) := by rw [hR2]; rfl
 have i2 : dIx RD (.int 2) = some d1 := by rw [hR2]; rfl
 have i3 : dIx RD (.int 3) = some d2 := by rw [hR2]; rfl
 have i4 : dIx RD (.int 4) = some d3 := by rw [hR2]; rfl
 rw [← hRD]
 clear hRD hR2
 obtain ⟨A, hA⟩ : ∃ X, X = OR ++ [32] ++ fg n ++ [32] ++ [65 + os] ++ [32] ++ [65 + og] := ⟨_, rfl⟩
 have lA : A.length ≤ 26 := by rw [hA]; simp only [List.length_append, List.length_cons, List.length_nil]; omega
 have A2 : ae aK (aa (ae aK (aa (ae aK (aa (ae aK (aa (ae aK (aa (mC (.str (tx (OR ++ [32]))))) (aa (mBi dF (aM (af 0) aY))))) (aa (mC (.str (tx [32])))))) (aa (ae dIx (af 1) (aa (mC (.int 0))))))) (aa (mC (.str (tx [32])))))) (aa (ae dIx (af 1) (aa (mC (.int 1))))) [.imm (.int (n : Nat)), .imm RD, .un] = some (.str (tx A), [.imm (.int (n : Nat)), .imm RD, .un]) := by
  have s0 := gZ hn
  have p1 := dW (a := OR ++ [32]) (b := fg n) (by simp only [List.length_append, List.length_cons, List.length_nil]; omega)
  have p2 := dW (a := OR ++ [32] ++ fg n) (b := [32]) (by simp only [List.length_append, List.length_cons, List.length_nil]; omega)
  have p3 := dW (a := OR ++ [32] ++ fg n ++ [32]) (b := [65 + os]) (by simp only [List.length_append, List.length_cons, List.length_nil]; omega)
  have p4 := dW (a := OR ++ [32] ++ fg n ++ [32] ++ [65 + os]) (b := [32]) (by simp only [List.length_append, List.length_cons, List.length_nil]; omega)
  have p5 := dW (a := OR ++ [32] ++ fg n ++ [32] ++ [65 + os] ++ [32]) (b := [65 + og]) (by simp only [List.length_append, List.length_cons, List.length_nil]; omega)
  rw [← hA] at p5
  generalize tx (OR ++ [32] ++ fg n ++ [32] ++ [65 + os] ++ [32]) = t8 at *
  generalize tx (OR ++ [32] ++ fg n ++ [32] ++ [65 + os]) = t9 at *
  generalize tx (OR ++ [32] ++ fg n ++ [32]) = t3 at *
  generalize tx (OR ++ [32] ++ fg n) = t2 at *
  generalize tx (OR ++ [32]) = t1 at *
  generalize tx [65 + os] = t4 at *
  generalize tx [65 + og] = tg at *
  generalize tx A = t5 at *
  generalize tx (fg n) = t6 at *
  generalize tx [32] = t7 at *
  simp -implicitDefEqProofs only [aW, dZ, cF, cS, b0, cj, aL, aP, bp, List.getElem?_cons_succ, List.getElem?_cons_zero, Option.bind_some, Option.map_some, aV, get_slot, aO, s0, p1, p2, p3, p4, p5, i0, i1]
 rw [aE, bQ]
 show Gt (ae _ _ _ [.imm (.int (n : Nat)), .imm RD, .un]) _
 rw [A2, ai]
 refine ⟨by show 2 < 3; decide, ?_⟩
 rw [ay, aE]
 show W (bx _ _ _) [.imm (.int (n : Nat)), .imm RD, .imm (.str (tx A))] _
 have plus : ∀ (b : List Nat), b.length ≤ 100 → ae aK (af 2) (aa (mC (.str (tx b)))) [.imm (.int (n : Nat)), .imm RD, .imm (.str (tx A))] = some (.str (tx (A ++ b)), [.imm (.int (n : Nat)), .imm RD, .imm (.str (tx A))]) := fun b h => by
  have p := dW (a := A) (b := b) (by omega)
  generalize tx (A ++ b) = t1 at *
  generalize tx A = t2 at *
  generalize tx b = t3 at *
  simp -implicitDefEqProofs only [aW, aL, aP, bp, List.getElem?_cons_succ, List.getElem?_cons_zero, Option.bind_some, Option.map_some, aV, get_slot, aO, p]
 have hW : aB 32 (df n ⟨os, og, st⟩) = A ++ SW (stW st) := by
  show aB 32 (OR :: ([fg n, [65 + os], [65 + og]] ++ stW st)) = _
  rw [pJ, nF, hA, cJ, cJ, cJ, eY]
  simp
 rw [hW]
 have T1 : ∀ b, d1 = .bl b → bZ (aa (ae dIx (af 1) (aa (mC (.int 2))))) [.imm (.int (n : Nat)), .imm RD, .imm (.str (tx A))] = some (b, [.imm (.int (n : Nat)), .imm RD, .imm (.str (tx A))]) := fun b h => by
  rw [h] at i2
  have tb : dR (.bl b) = some b := rfl
  generalize tx A = t2
  simp -implicitDefEqProofs only [fL, aW, aL, aP, bp, List.getElem?_cons_succ, List.getElem?_cons_zero, Option.bind_some, Option.map_some, aV, get_slot, aO, i2, tb]
 have T3 : ∀ b, d3 = .bl b → bZ (aa (ae dIx (af 1) (aa (mC (.int 4))))) [.imm (.int (n : Nat)), .imm RD, .imm (.str (tx A))] = some (b, [.imm (.int (n : Nat)), .imm RD, .imm (.str (tx A))]) := fun b h => by
  rw [h] at i4
  have tb : dR (.bl b) = some b := rfl
  generalize tx A = t2
  simp -implicitDefEqProofs only [fL, aW, aL, aP, bp, List.getElem?_cons_succ, List.getElem?_cons_zero, Option.bind_some, Option.map_some, aV, get_slot, aO, i4, tb]
 have T2 : ∀ b, dIs false d2 .non = some (.bl b) → aq (ae (dIs false) (aa (ae dIx (af 1) (aa (mC (.int 3))))) (aa (mC .non))) [.imm (.int (n : Nat)), .imm RD, .imm (.str (tx A))] = some (b, [.imm (.int (n : Nat)), .imm RD, .imm (.str (tx A))]) := fun b h => by
  generalize tx A = t2
  simp -implicitDefEqProofs only [cu, aW, aL, aP, bp, List.getElem?_cons_succ, List.getElem?_cons_zero, Option.bind_some, Option.map_some, aV, get_slot, aO, i3, h]
 have two : ∀ (m : Nat) (v : List Nat), m < 1000000 → v.length ≤ 13 → d2 = .int (m : Nat) → ae aK (aa (ae aK (af 2) (aa (mC (.str (tx (32 :: v ++ [32]))))))) (aa (mBi dF (aM (aa (ae dIx (af 1) (aa (mC (.int 3))))) aY))) [.imm (.int (n : Nat)), .imm RD, .imm (.str (tx A))] = some (.str (tx (A ++ (32 :: v ++ [32]) ++ fg m)), [.imm (.int (n : Nat)), .imm RD, .imm (.str (tx A))]) := fun m v hm hv h2 => by
  have s0 := gZ hm
  rw [h2] at i3
  have lm := (cV hm).2
  have p1 := plus (32 :: v ++ [32]) (by simp only [List.length_append, List.length_cons, List.length_nil]; omega)
  have p2 := dW (a := A ++ (32 :: v ++ [32])) (b := fg m) (by simp only [List.length_append, List.length_cons, List.length_nil]; omega)
  generalize ae aK (af 2) (aa (mC (.str (tx (32 :: v ++ [32]))))) = m1 at *
  generalize tx (A ++ (32 :: v ++ [32]) ++ fg m) = t1 at *
  generalize tx (A ++ (32 :: v ++ [32])) = t2 at *
  generalize tx (fg m) = t3 at *
  generalize tx A = t4 at *
  simp -implicitDefEqProofs only [aW, dZ, cF, cS, b0, cj, aL, aP, bp, List.getElem?_cons_succ, List.getElem?_cons_zero, Option.bind_some, Option.map_some, aV, get_slot, aO, p1, i3, s0, p2]
 have ret : ∀ (X : List Nat) (m : ME), m [.imm (.int (n : Nat)), .imm RD, .imm (.str (tx A))] = some (.str (tx X), [.imm (.int (n : Nat)), .imm RD, .imm (.str (tx A))]) → X = A ++ SW (stW st) → W (be m) [.imm (.int (n : Nat)), .imm RD, .imm (.str (tx A))] (RtA [] fun _ d ds => d = .str (tx (A ++ SW (stW st))) ∧ ds = []) := fun X m h hX => by
  rw [cz, h, ai, cK, ck, ai, hX]
  exact ⟨rfl, rfl⟩
 have retS : ∀ (X : List Nat) (m : ME) (rest : MS), m [.imm (.int (n : Nat)), .imm RD, .imm (.str (tx A))] = some (.str (tx X), [.imm (.int (n : Nat)), .imm RD, .imm (.str (tx A))]) → X = A ++ SW (stW st) → W (be m) [.imm (.int (n : Nat)), .imm RD, .imm (.str (tx A))] (sqK rest (RtA [] fun _ d ds => d = .str (tx (A ++ SW (stW st))) ∧ ds = [])) := fun X m rest h hX => by
  rw [cz, h, ai, dD, cK, ck, ai, hX]
  exact ⟨rfl, rfl⟩
 cases st with
 | done =>
  have h1 : d1 = .bl true := by injection hd with a _; exact a.symm
  rw [bI, T1 true h1, ai, if_pos rfl]
  exact retS _ _ _ (plus (32 :: DN) (by decide)) (by show _ = A ++ SW [DN]; rw [cJ, eY]; simp)
 | waits =>
  have h1 : d1 = .bl false := by injection hd with a _; exact a.symm
  have h2 : d2 = .non := by injection hd with _ b; injection b with a _; exact a.symm
  rw [bI, T1 false h1, ai, if_neg (by simp), bA, ay, aE, bI, T2 true (by rw [h2]; rfl), ai, if_pos rfl]
  exact retS _ _ _ (plus (32 :: WT) (by decide)) (by show _ = A ++ SW [WT]; rw [cJ, eY]; simp)
 | has m b =>
  have h1 : d1 = .bl false := by injection hd with a _; exact a.symm
  have h2 : d2 = .int (m : Nat) := by injection hd with _ b; injection b with a _; exact a.symm
  have h3 : d3 = .bl b := by injection hd with _ b; injection b with _ c; injection c with a _; exact a.symm
  have hm : m < 1000000 := hst
  rw [bI, T1 false h1, ai, if_neg (by simp), bA, ay, aE, bI, T2 false (by rw [h2]; rfl), ai, if_neg (by simp), bA, ay, aE, bI, T3 b h3, ai]
  cases b with
  | true =>
   rw [if_pos rfl]
   exact retS _ _ _ (two m LD hm (by decide) h2) (by show _ = A ++ SW [LD, fg m]; rw [cJ, cJ, eY]; simp)
  | false =>
   rw [if_neg (by simp), bA, ay]
   exact ret _ _ (two m EM hm (by decide) h2) (by show _ = A ++ SW [EM, fg m]; rw [cJ, cJ, eY]; simp)
end Law
namespace Law
open PySem L2 Q
theorem qy {N : List Str} {mf : MS} {A : Type} {f : A → D} {g : Nat → A → List Nat} {L : List A} {RD : D} {i : Nat} {X0 : List D} {s2 : Sl} {Po : Fl → Prop} (hL : L.length ≤ 100) (hX0 : X0.length ≤ 100) (hi : dIx RD (.int (i : Nat)) = some (.lst (L.map f)))
  (hcall : ∀ k a, L[k]? = some a → res N mf [.imm (.int (k : Nat)), .imm (f a)] [] = some (.str (tx (g k a)), []))
  (hQ : ∀ s, Po (.nx [.imm RD, .own (.lst (X0 ++ sW (L.mapIdx g))), s])) :
  W (eT (iR1 (aj (mBi bT (aM (aa (ae dIx (af 0) (aa (mC (.int (i : Nat)))))) aY)) aN)) (gN 2)
  (gJ 1 (ak N 2 mf (aC (au 2) (aC (ae dIx (aa (ae dIx (af 0) (aa (mC (.int (i : Nat)))))) (af 2)) aA))))) [.imm RD, .own (.lst X0), s2] Po := by
 have hit : iR1 (aj (mBi bT (aM (aa (ae dIx (af 0) (aa (mC (.int (i : Nat)))))) aY)) aN) [.imm RD, .own (.lst X0), s2] = some (ef 0 L.length, [.imm RD, .own (.lst X0), s2]) := by
  refine lE ?_ (by omega)
  have hl : bT [.lst (L.map f)] = some (.int (L.length : Nat)) := by rw [eJ, List.length_map]
  generalize L.map f = LF at *
  simp -implicitDefEqProofs only [mR, wx, aW, dZ, cF, cS, b0, cj, aL, aP, bp, List.getElem?_cons_succ, List.getElem?_cons_zero, Option.bind_some, Option.map_some, aV, get_slot, aO, hi, hl]
 obtain ⟨P, hP⟩ := inv fun k e => ∃ s, e = [.imm RD, .own (.lst (X0 ++ sW ((L.mapIdx g).take k))), s]
 refine mW hit P (by rw [hP]; exact ⟨s2, by rw [List.take_zero]; show _ = [_, Sl.own (.lst (X0 ++ [])), s2]; rw [List.append_nil]⟩) ?_ ?_
 ·intro k d e hd hp
  rw [hP] at hp
  obtain ⟨s, rfl⟩ := hp
  obtain ⟨hk, rfl⟩ : k < L.length ∧ d = .int (k : Nat) := by
   have hk := (List.getElem?_eq_some_iff.mp hd).1
   rw [iL] at hk
   refine ⟨hk, ?_⟩
   unfold ef at hd
   rw [List.getElem?_map, List.getElem?_range hk] at hd
   simp at hd
   exact hd.symm
  have ha := List.getElem?_eq_getElem hk
  have hc := hcall k L[k] ha
  have hix : dIx (.lst (L.map f)) (.int (k : Nat)) = some (f L[k]) := by
   rw [Q.a8, fj, List.getElem?_map, ha]; rfl
  have hgk : (L.mapIdx g)[k]? = some (g k L[k]) := by rw [List.getElem?_mapIdx, ha]; rfl
  have hl2 : (X0 ++ sW ((L.mapIdx g).take k)).length ≤ 200 := by
   rw [List.length_append, List.length_map, List.length_take]
   omega
  have hnext : X0 ++ sW ((L.mapIdx g).take k) ++ [.str (tx (g k L[k]))] = X0 ++ sW ((L.mapIdx g).take (k + 1)) := by
   rw [i5 hgk, List.append_assoc]
   unfold sW
   rw [List.map_append]; rfl
  generalize X0 ++ sW ((L.mapIdx g).take k) = X at *
  refine ⟨[.imm RD, .own (.lst X), .imm (.int (k : Nat))], by simp -implicitDefEqProofs, ?_⟩
  generalize L.map f = LF at *
  generalize f L[k] = fa at *
  generalize hg : tx (g k L[k]) = tg at *
  have A : ak N 2 mf (aC (au 2) (aC (ae dIx (aa (ae dIx (af 0) (aa (mC (.int (i : Nat)))))) (af 2)) aA)) [.imm RD, .own (.lst X), .imm (.int (k : Nat))] = some (.str tg, [.imm RD, .own (.lst X), .imm (.int (k : Nat))]) := by
   rw [cU]
   simp -implicitDefEqProofs [hi, hix, hc, -Q.a8]
  have B : c4 [.imm RD, .own (.lst X), .imm (.int (k : Nat))] 1 = some X := rfl
  rw [sv, B, ai, A, ai, B, ai]
  refine ⟨szL (by omega), ?_⟩
  rw [wm, hP, hnext]
  exact ⟨_, rfl⟩
 ·intro e hp
  rw [hP, iL, List.take_of_length_le (by rw [List.length_mapIdx]; omega)] at hp
  obtain ⟨s, rfl⟩ := hp
  exact hQ s
theorem rT {R : List Rob} {O : List Ord} (h : Rep R O) : res lI ku [.imm (.lst [.lst (R.map di), .lst (O.map dm)])] [] = some (.lst (sW (bt R ++ bz O)), []) := by
 refine cg ?_
 unfold ku
 have h1 := h.rl
 have h2 := h.ol
 obtain ⟨RD, hRD⟩ : ∃ X, X = D.lst [.lst (R.map di), .lst (O.map dm)] := ⟨_, rfl⟩
 have i0 : dIx RD (.int (0 : Nat)) = some (.lst (R.map di)) := by rw [hRD]; rfl
 have i1 : dIx RD (.int (1 : Nat)) = some (.lst (O.map dm)) := by rw [hRD]; rfl
 rw [← hRD]
 show W _ [.imm RD, .un, .un] _
 rw [aE, fK, rQ, ai]
 refine ⟨by show 1 < 3; decide, ?_⟩
 rw [ay, aE]
 show W (eT _ _ _) [.imm RD, .own (.lst []), .un] _
 refine qy (i := 0) (f := di) (g := fun i r => aB 32 (dh i r)) (by omega) (by simp) i0 (fun k a ha => xc k a (by have := (List.getElem?_eq_some_iff.mp ha).1; omega) (h.r a (List.mem_of_getElem? ha))) fun s => ?_
 rw [ay, List.nil_append, aE]
 refine qy (i := 1) (f := dm) (g := fun i r => aB 32 (df i r)) (by omega) (by rw [List.length_map, List.length_mapIdx]; omega) i1 (fun k a ha => wN k a (by have := (List.getElem?_eq_some_iff.mp ha).1; omega) (h.o a (List.mem_of_getElem? ha))) fun s => ?_
 have e : sW (R.mapIdx fun i r => aB 32 (dh i r)) ++ sW (O.mapIdx fun i o => aB 32 (df i o)) = sW (bt R ++ bz O) := List.map_append.symm
 rw [ay, e]
 generalize sW (bt R ++ bz O) = X
 simp -implicitDefEqProofs
end Law
namespace Law
open PySem L2 Q
def RO : List Nat := [82, 111, 98, 111, 116]
def spW (kind : Nat) (x : List Nat) : List Nat :=
 if kind = 0 then x ++ [32] else if kind = 1 then 32 :: x else if kind = 2 then x ++ [32, 120] else if kind = 3 then RO ++ x.drop 5 else if kind = 4 then x.take 5 ++ [32, 32] ++ x.drop 6 else if kind = 5 then x.take 6 ++ [48] ++ x.drop 6 else if kind = 6 then x.take 5 else []
theorem xy (kind : Nat) (x : List Nat) : (spW kind x).length ≤ x.length + 7 := by
 unfold spW RO
 split
 ·simp
 split
 ·simp
 split
 ·simp
 split
 ·simp; omega
 split
 ·simp; omega
 split
 ·simp; omega
 split
 ·simp; omega
 ·simp
theorem xf (kind : Nat) {x : List Nat} (h : 10 ∉ x) : 10 ∉ spW kind x := by
 have ht : ∀ n, 10 ∉ x.take n := fun n z => h (List.mem_of_mem_take z)
 have hd : ∀ n, 10 ∉ x.drop n := fun n z => h (List.mem_of_mem_drop z)
 unfold spW RO
 split
 ·simp [h]
 split
 ·simp [h]
 split
 ·simp [h]
 split
 ·simp [hd]
 split
 ·simp [hd, ht]
 split
 ·simp [hd, ht]
 split
 ·exact ht 5
 ·simp
structure c9 (R : List Rob) (O : List Ord) (a : Nat) (H : List Nat) (k : Nat) (V : List (List Nat)) : Prop where
 at_ : (bt R ++ bz O)[a]? = some (aB 32 (H :: fg k :: V))
 two : 2 ≤ V.length
 many : V.length ≤ 110
 hi : ∀ w ∈ V, Hi w ∧ w.length ≤ 13
 k9 : k < 10
 kind : (H = RB ∧ k = a ∧ a < R.length) ∨ (H = OR ∧ a = R.length + k)
 tail : ∀ bw, jq bw → (a ≤ R.length → res eU ee [.imm (.int (a : Nat)), .imm (.lst (sW (H :: fg k :: V ++ [bw])))] [] = some (.non, [])) ∧ res e9 eB [.imm (.int ((a - R.length : Nat) : Int)), .imm (.lst (sW (H :: fg k :: V ++ [bw])))] [] = some (.non, [])
theorem nV {R : List Rob} {O : List Ord} (hR : Rep R O) {a : Nat} (ha : a < R.length + O.length) : ∃ H k V, c9 R O a H k V := by
 have h1 := hR.rl
 have h2 := hR.ol
 by_cases hr : a < R.length
 ·have hg := List.getElem?_eq_getElem hr
  have hok : Rok R[a] := hR.r _ (List.getElem_mem hr)
  obtain ⟨l1, l2⟩ := j7 (n := a) (by omega) hok
  have hh := rm a R[a]
  refine ⟨RB, a, [plW R[a].place, brW R[a].broken] ++ eW R[a].er, p8 hg, by simp, ?_, ?_, by omega, .inl ⟨rfl, rfl, hr⟩, fun bw hb => ⟨fun _ => uv a R[a] (by omega) hok hb, ?_⟩⟩
  ·have : (dh a R[a]).length = ([plW R[a].place, brW R[a].broken] ++ eW R[a].er).length + 2 := rfl
   omega
  ·intro w hw
   have : w ∈ dh a R[a] := List.mem_cons_of_mem _ (List.mem_cons_of_mem _ hw)
   exact ⟨hh w this, l2 w this⟩
  ·exact mP (w := RB) (by simp) rfl (by decide)
 ·obtain ⟨j, rfl⟩ : ∃ j, a = R.length + j := ⟨a - R.length, by omega⟩
  have hj : j < O.length := by omega
  have hg := List.getElem?_eq_getElem hj
  have hok : Ook O[j] := hR.o _ (List.getElem_mem hj)
  obtain ⟨l1, l2⟩ := jV (n := j) (by omega) hok
  have hh := qz j O[j]
  refine ⟨OR, j, [[65 + O[j].s], [65 + O[j].g]] ++ stW O[j].st, pW hg, by simp, ?_, ?_, by omega, .inr ⟨rfl, rfl⟩, fun bw hb => ⟨fun _ => ?_, ?_⟩⟩
  ·have : (df j O[j]).length = ([[65 + O[j].s], [65 + O[j].g]] ++ stW O[j].st).length + 2 := rfl
   omega
  ·intro w hw
   have : w ∈ df j O[j] := List.mem_cons_of_mem _ (List.mem_cons_of_mem _ hw)
   exact ⟨hh w this, l2 w this⟩
  ·exact mN (w := OR) (by simp) rfl (by decide)
  ·rw [Nat.add_sub_cancel_left]
   exact u4 j O[j] (by omega) hok hb
section
variable {R : List Rob} {O : List Ord} {a : Nat} {H : List Nat} {k : Nat} {V : List (List Nat)}
theorem c9.H5 (h : c9 R O a H k V) : H.length = 5 := by rcases h.kind with ⟨rfl, _⟩ | ⟨rfl, _⟩ <;> rfl
theorem c9.HHi (h : c9 R O a H k V) : Hi H := by
 rcases h.kind with ⟨rfl, _⟩ | ⟨rfl, _⟩
 ·decide
 ·decide
theorem c9.lenJ (h : c9 R O a H k V) {W : List (List Nat)} (hW : ∀ w ∈ W, w.length ≤ 13) (hl : W.length ≤ 200) : (aB 32 W).length ≤ 3000 := by
 have := eR 32 13 W hW
 omega
theorem c9.len (h : c9 R O a H k V) : (aB 32 (H :: fg k :: V)).length ≤ 3000 := by
 refine h.lenJ (fun w hw => ?_) (by have := h.many; simp; omega)
 rcases List.mem_cons.mp hw with rfl | hw
 ·rw [h.H5]; omega
 rcases List.mem_cons.mp hw with rfl | hw
 ·have := (cV (n := k) (by have := h.k9; omega)).2; omega
 ·exact (h.hi w hw).2
theorem c9.no10 (h : c9 R O a H k V) : 10 ∉ aB 32 (H :: fg k :: V) := by
 intro z
 have := pE (H :: fg k :: V) (fun w hw => ?_) 10 z
 ·omega
 ·rcases List.mem_cons.mp hw with rfl | hw
  ·exact h.HHi
  rcases List.mem_cons.mp hw with rfl | hw
  ·exact i6 k
  ·exact (h.hi w hw).1
theorem c9.spl (h : c9 R O a H k V) {A B : List (List Nat)} (hA : A ≠ []) (hA2 : ∀ w ∈ A, 32 ∉ w ∧ w.length ≤ 13) (hl : A.length ≤ 5) (hB : ∀ w ∈ B, 32 ∉ w ∧ w.length ≤ 13) (hl2 : B.length ≤ 5) : cO (tx (aB 32 (A ++ V ++ B))) ⟨#[32]⟩ = some (.lst (sW (A ++ V ++ B))) := by
 have key : ∀ w ∈ A ++ V ++ B, 32 ∉ w ∧ w.length ≤ 13 := fun w hw => by
  rcases List.mem_append.mp hw with hw | hw
  ·rcases List.mem_append.mp hw with hw | hw
   ·exact hA2 w hw
   ·exact ⟨fun z => by have := (h.hi w hw).1 32 z; omega, (h.hi w hw).2⟩
  ·exact hB w hw
 have hm := h.many
 have := h.lenJ (W := A ++ V ++ B) (fun w hw => (key w hw).2) (by simp only [List.length_append]; omega)
 exact Law.spl (by decide) (by simp [hA]) (fun w hw => (key w hw).1) (by omega)
theorem c9.w2 (h : c9 R O a H k V) : ∀ w ∈ [H, fg k], 32 ∉ w ∧ w.length ≤ 13 := by
 intro w hw
 have h9 := h.k9
 rcases List.mem_cons.mp hw with rfl | hw
 ·exact ⟨fun z => by have := h.HHi 32 z; omega, by rw [h.H5]; omega⟩
 ·have : w = fg k := by simpa using hw
  subst this
  exact ⟨fun z => by have := i6 k 32 z; omega, by have := (cV (n := k) (by omega)).2; omega⟩
theorem pI (h : c9 R O a H k V) {X : List Nat} (hX : 32 ∉ X ∧ X.length ≤ 13) (h1 : X ≠ RB) (h2 : X ≠ OR) {A : List (List Nat)} (hA : ∀ w ∈ A, 32 ∉ w ∧ w.length ≤ 13) (hl : A.length ≤ 3) (hA2 : 1 ≤ A.length) : jc R a (aB 32 ((X :: A) ++ V)) := by
 have h2' := h.two
 refine ⟨(X :: A) ++ V, ?_, fun _ => mN (w := X) (by simp; omega) rfl h1, mP (w := X) (by simp; omega) rfl h2⟩
 have := h.spl (A := X :: A) (B := []) (by simp) (fun w hw => by
  rcases List.mem_cons.mp hw with rfl | hw
  ·exact hX
  ·exact hA w hw) (by simp; omega) (fun w hw => by cases hw) (by simp)
 rwa [List.append_nil] at this
theorem lG {x : List Nat} (h : 32 ∉ x) (hl : x.length ≤ 1000) : jc R a x :=
 ⟨[x], Law.spl (c := 32) (ws := [x]) (by decide) (by simp) (fun w hw => List.mem_singleton.mp hw ▸ h) (by show x.length ≤ 49000; omega), fun _ => tA (by simp), tV (by simp)⟩
theorem nZ {R' : List Rob} {b : Nat} (h : c9 R O a H k V) {N : List (List Nat)} {w : List Nat} {d : D} (hN : ∀ x ∈ w :: N, 32 ∉ x ∧ x.length ≤ 13) (hl : N.length ≤ 3) (hr : res cB cC [.imm (.str (tx w))] [] = some (d, [])) (hd1 : H = RB → b ≤ R.length → aG true d (.int (b : Nat)) = some (.bl true)) (hd2 : H = OR → aG true d (.int ((b - R.length : Nat) : Int)) = some (.bl true)) : jc R b (aB 32 ((H :: w :: N) ++ V)) := by
 have h2' := h.two
 have hs := h.spl (A := H :: w :: N) (B := []) (by simp) (fun x hx => by
  rcases List.mem_cons.mp hx with rfl | hx
  ·exact h.w2 _ List.mem_cons_self
  ·exact hN x hx) (by simp; omega) (fun w hw => by cases hw) (by simp)
 rw [List.append_nil] at hs
 rcases h.kind with ⟨rfl, _⟩ | ⟨rfl, _⟩
 ·exact ⟨(RB :: w :: N) ++ V, hs, fun hb => xp (w := w) (by simp; omega) rfl rfl hr (hd1 rfl hb), mP (w := RB) (by simp; omega) rfl (by decide)⟩
 ·exact ⟨(OR :: w :: N) ++ V, hs, fun hb => mN (w := OR) (by simp; omega) rfl (by decide), w5 (w := w) (by simp; omega) rfl rfl hr (hd2 rfl)⟩
theorem o8 (h : c9 R O a H k V) {bw : List Nat} (hb : jq bw) : jc R a (aB 32 (H :: fg k :: V) ++ 32 :: bw) := by
 have hs := h.spl (A := [H, fg k]) (B := [bw]) (by simp) h.w2 (by simp) (fun w hw => by
  have : w = bw := by simpa using hw
  subst this
  rcases hb with rfl | rfl
  ·decide
  ·decide) (by simp)
 have e : aB 32 (H :: fg k :: V) ++ 32 :: bw = aB 32 ([H, fg k] ++ V ++ [bw]) := by
  rw [iE _ _ _ (by simp)]; rfl
 rw [e]
 exact ⟨[H, fg k] ++ V ++ [bw], hs, (h.tail bw hb).1, (h.tail bw hb).2⟩
theorem ig (x y : List Nat) (V : List (List Nat)) : aB 32 (x :: y :: V) = x ++ 32 :: aB 32 (y :: V) := rfl
theorem sr (h : c9 R O a H k V) (kind : Nat) : jc R a (spW kind (aB 32 (H :: fg k :: V))) := by
 have h5 := h.H5
 have hw2 := h.w2
 have hfk : 32 ∉ fg k ∧ (fg k).length ≤ 13 := hw2 _ (by simp)
 have hH : 32 ∉ H ∧ H.length ≤ 13 := hw2 _ (by simp)
 have t5 : (aB 32 (H :: fg k :: V)).take 5 = H := by rw [ig, ← h5, List.take_left]
 have d5 : (aB 32 (H :: fg k :: V)).drop 5 = 32 :: aB 32 (fg k :: V) := by rw [ig, ← h5, List.drop_left]
 have e6 : aB 32 (H :: fg k :: V) = (H ++ [32]) ++ aB 32 (fg k :: V) := by rw [ig]; simp
 have l6 : (H ++ [32]).length = 6 := by simp [h5]
 have t6 : (aB 32 (H :: fg k :: V)).take 6 = H ++ [32] := by rw [e6, ← l6, List.take_left]
 have d6 : (aB 32 (H :: fg k :: V)).drop 6 = aB 32 (fg k :: V) := by rw [e6, ← l6, List.drop_left]
 unfold spW
 rw [t5, d5, t6, d6]
 split
 ·exact o8 h (.inl rfl)
 split
 ·exact pI h (X := []) (by decide) (by decide) (by decide) (A := [H, fg k]) hw2 (by simp) (by simp)
 split
 ·exact o8 h (.inr rfl)
 split
 ·exact pI h (X := RO) (by decide) (by decide) (by decide) (A := [fg k]) (fun w hw => by
   have : w = fg k := by simpa using hw
   subst this; exact hfk) (by simp) (by simp)
 split
 ·have e : H ++ [32, 32] ++ aB 32 (fg k :: V) = aB 32 ((H :: [] :: [fg k]) ++ V) := by
   show _ = H ++ 32 :: ([] ++ 32 :: aB 32 (fg k :: V)); simp
  rw [e]
  exact nZ (R' := R) h (w := []) (N := [fg k]) (d := .non) (fun w hw => by
   rcases List.mem_cons.mp hw with rfl | hw
   ·decide
   ·have : w = fg k := by simpa using hw
    subst this; exact hfk) (by simp) yp (fun _ _ => nj _) (fun _ => nj _)
 split
 ·have e : H ++ [32] ++ [48] ++ aB 32 (fg k :: V) = aB 32 ((H :: (48 :: fg k) :: []) ++ V) := by
   cases V with
   | nil => show _ = H ++ 32 :: (48 :: fg k); show _ ++ fg k = _; simp
   | cons v V => show _ = H ++ 32 :: ((48 :: fg k) ++ 32 :: aB 32 (v :: V)); rw [ig]; simp
  rw [e]
  have h9 := h.k9
  have := (cV (n := k) (by omega)).2
  exact nZ (R' := R) h (w := 48 :: fg k) (N := []) (d := .non) (fun w hw => by
   have : w = 48 :: fg k := by simpa using hw
   subst this
   refine ⟨fun z => ?_, by simp; omega⟩
   rcases List.mem_cons.mp z with z | z
   ·omega
   ·exact hfk.1 z) (by simp) (yf h9) (fun _ _ => nj _) (fun _ => nj _)
 split
 ·exact lG hH.1 (by omega)
 ·exact lG (by simp) (by simp)
theorem sS (h : c9 R O a H k V) : jc R (a + 1) (aB 32 (H :: fg k :: V)) := by
 have h9 := h.k9
 have hfk : 32 ∉ fg k ∧ (fg k).length ≤ 13 := h.w2 _ (by simp)
 refine nZ (R' := R) (b := a + 1) h (w := fg k) (N := []) (d := .int (k : Nat)) (fun w hw => by
   have : w = fg k := by simpa using hw
   subst this; exact hfk) (by simp) (ic (by omega)) (fun hH _ => tz ?_) (fun hH => tz ?_)
 ·rcases h.kind with ⟨_, q, _⟩ | ⟨q, _⟩
  ·omega
  ·rw [hH] at q; exact absurd q (by decide)
 ·rcases h.kind with ⟨q, _⟩ | ⟨_, q⟩
  ·rw [hH] at q; exact absurd q (by decide)
  ·omega
end
end Law
namespace Law
open PySem L2 Q
theorem pK {M : Mem} {N : List Str} {mf : MSC} {cs : List aw} {r : aw × Mem} (h : WC mf M (cs.map some ++ List.replicate (N.length - cs.length) none) (sy fun c M' => (c, M') = r)) : fv N mf M cs = some r := by
 obtain ⟨c, M', h1, h2⟩ := wz h
 rw [h1, h2]
theorem oG {N : List Str} {np : Nat} {mf : MSC} {a : MAC} {M M1 : Mem} {env : aD} {cs : List aw} {r : Rx} (ha : a M env = some (cs, M1)) (hl : cs.length = np) (hr : km N mf M1 cs = some r) : nv N np mf a M env = some r := by
 unfold nv
 rw [ha, Option.bind_some]
 dsimp only
 rw [if_pos hl]; exact hr
theorem uR {M : Mem} {TD : D} {n : Nat} (h : WC fV M [some (.fix TD), none, none, none, none, none, none, none, none] (fun fl => ∃ M' e, fl = .exc "LineError" ["line"] [.fix (.int (n : Nat))] M' e ∧ M'[0]? = M[0]?)) : ∃ M', fv eP dX M [.fix TD] = some (.fix (.int (n : Nat)), M') ∧ M'[0]? = M[0]? := by
 obtain ⟨fl, h1, M', e, rfl, h2⟩ := h
 have hx : km jl fV M [.fix TD] = some (.inr ("LineError", ["line"], [.fix (.int (n : Nat))], M')) := by
  unfold km
  show (fV M [some (.fix TD), none, none, none, none, none, none, none, none]).bind uO = _
  rw [h1]; rfl
 have hc := oG (np := 1) (N := jl) (mf := fV) (env := [some (.fix TD), none]) (dE (a := bB (au 0)) (v := .fix TD) (r := cI) (M := M) (M1 := M) rfl rfl) rfl hx
 refine ⟨M', pK ?_, h2⟩
 show WC dX M [some (.fix TD), none] _
 refine ⟨.ret (.fix (.int (n : Nat))) M' [some (.fix TD), none], ?_, rfl⟩
 unfold dX cY nG nK
 rw [hc]
 rfl
theorem rS {M : Mem} {TD : D} (h : WC fV M [some (.fix TD), none, none, none, none, none, none, none, none] (fun fl => ∃ v M' e, fl = .ret v M' e ∧ M'[0]? = M[0]?)) : ∃ M', fv eP dX M [.fix TD] = some (.fix (.int 0), M') ∧ M'[0]? = M[0]? := by
 obtain ⟨fl, h1, v, M', e, rfl, h2⟩ := h
 have hx : km jl fV M [.fix TD] = some (.inl (v, M')) := by
  unfold km
  show (fV M [some (.fix TD), none, none, none, none, none, none, none, none]).bind uO = _
  rw [h1]; rfl
 have hc := oG (np := 1) (N := jl) (mf := fV) (env := [some (.fix TD), none]) (dE (a := bB (au 0)) (v := .fix TD) (r := cI) (M := M) (M1 := M) rfl rfl) rfl hx
 refine ⟨M', pK ?_, h2⟩
 show WC dX M [some (.fix TD), none] _
 unfold dX
 refine yt ⟨.nx M' [some (.fix TD), none], ?_, ?_⟩
 ·unfold nG nK
  rw [hc]
  rfl
 ·rw [lJ]
  exact l0 (v := .fix (.int 0)) (M1 := M') rfl rfl
theorem oL {K : List (List Nat)} (h10 : ∀ w ∈ K, 10 ∉ w) (hl : (aB 10 K).length ≤ 49000) (hne : K = [] ∨ aB 10 K ≠ []) : ∀ S : En, S[0]? = some (.imm (.str (tx (aB 10 K)))) → mIf (bZ (af 0)) (mM1 cO (au 0) (mC (.str "\n"))) (b8 aN) S = some (.lst (sW K), S) := by
 intro S hS
 have e8 : ("\n" : Str) = ⟨#[10]⟩ := rfl
 rw [e8]
 unfold mIf
 rcases hne with rfl | hne
 ·have : bZ (af 0) S = some (false, S) := by
   simp -implicitDefEqProofs only [fL, aL, hS, Option.bind_some, Option.map_some, aV, get_slot]
   rfl
  rw [this, Option.bind_some]
  dsimp only
  rw [if_neg (by simp), rQ]
  rfl
 ·have hk : K ≠ [] := fun z => hne (by rw [z]; rfl)
  have : bZ (af 0) S = some (true, S) := by
   have q : dR (.str (tx (aB 10 K))) = some true := by
    show (if (tx (aB 10 K)).length ≤ sizeLine then some (((tx (aB 10 K)).length : Int) != 0) else none) = _
    rw [if_pos (by rw [dA]; exact ui (by omega)), dA]
    have : ((aB 10 K).length : Int) ≠ 0 := by
     intro z
     exact hne (List.eq_nil_of_length_eq_zero (by omega))
    simp [hne]
   simp -implicitDefEqProofs only [fL, aL, hS, Option.bind_some, Option.map_some, aV, get_slot, q]
  rw [this, Option.bind_some]
  dsimp only
  rw [if_pos rfl]
  have sp := spl (c := 10) (by decide) hk h10 hl
  generalize tx (aB 10 K) = T at *
  generalize sW K = X at *
  have hv : au 0 S = some (.str T, S) := by unfold au; rw [hS]
  show (au 0 S).bind _ = _
  rw [hv, Option.bind_some]
  show (cO T ⟨#[10]⟩).map _ = _
  rw [sp]
  rfl
theorem mH {M : Mem} (h0 : 0 < M.length) {R : List Rob} {O : List Ord} (hR : Rep R O) {K : List (List Nat)} {a : Nat} (h10 : ∀ w ∈ K, 10 ∉ w) (hl : (aB 10 K).length ≤ 49000) (hne : K = [] ∨ aB 10 K ≠ [])
  (hK : ∀ k, k < a → K[k]? = (bt R ++ bz O)[k]?) (ha : a ≤ R.length + O.length) (hb : ∀ x, K[a]? = some x → jc R a x) (hKa : a < K.length) (hKl : K.length ≤ 60) :
  ∃ M', fv eP dX M [.fix (.str (tx (aB 10 K)))] = some (.fix (.int ((a + 1 : Nat) : Int)), M') ∧ M'[0]? = M[0]? := by
 obtain ⟨fl, q1, q2, _⟩ := qE (M := M) h0 hR (oL h10 hl hne) hK ha hb (Nat.le_of_lt hKa) hKl
 exact uR ⟨fl, q1, q2 hKa⟩
theorem xC {M : Mem} (h0 : 0 < M.length) {R : List Rob} {O : List Ord} (hR : Rep R O) (h10 : ∀ w ∈ bt R ++ bz O, 10 ∉ w) (hl : (aB 10 (bt R ++ bz O)).length ≤ 49000) (hne : bt R ++ bz O = [] ∨ aB 10 (bt R ++ bz O) ≠ []) :
  ∃ M', fv eP dX M [.fix (.str (tx (aB 10 (bt R ++ bz O))))] = some (.fix (.int 0), M') ∧ M'[0]? = M[0]? := by
 have hlen := fY (R := R) (O := O)
 have h1 := hR.rl
 have h2 := hR.ol
 obtain ⟨fl, q1, _, q2⟩ := qE (M := M) h0 hR (a := (bt R ++ bz O).length) (oL h10 hl hne) (fun _ _ => rfl) (by omega) (fun x hx => by rw [List.getElem?_eq_none (Nat.le_refl _)] at hx; cases hx) (Nat.le_refl _) (by omega)
 exact rS ⟨fl, q1, q2 rfl⟩
end Law
namespace Law
open PySem L2 Q
theorem u5 (t : List Nat) (k : Nat) : cutS (tx t) none (some (k : Int)) = tx (t.take k) := by
 have h1 : HT.sIx (tx t).length (tx t).length (some (k : Int)) = min k (tx t).length := HT.sIx_nat _ _ _
 have h2 : HT.sIx (tx t).length 0 none = 0 := HT.sIx_none _ _
 unfold cutS
 rw [h1, h2]
 show tx _ = tx _
 rw [fe]
 simp [List.take_eq_take_iff]
theorem sC (t : List Nat) (k : Nat) : cutS (tx t) (some (k : Int)) none = tx (t.drop k) := by
 have h1 : HT.sIx (tx t).length 0 (some (k : Int)) = min k (tx t).length := HT.sIx_nat _ _ _
 have h2 : HT.sIx (tx t).length (tx t).length none = (tx t).length := HT.sIx_none _ _
 unfold cutS
 rw [h1, h2]
 show tx _ = tx _
 rw [fe, dA]
 have e : (tx t).cps.toList = t := kd t
 rw [e, List.take_of_length_le (by rw [List.length_drop]; exact Nat.le_refl _)]
 by_cases h : k ≤ t.length
 ·rw [Nat.min_eq_left h]
 ·rw [Nat.min_eq_right (by omega), List.drop_of_length_le (Nat.le_refl _), List.drop_of_length_le (by omega)]
theorem yG {x : List Nat} (h : x.length ≤ 9000) (k : Nat) : gm (.str (tx x)) none (some ((k : Nat) : Int)) = some (.str (tx (x.take k))) := by
 show (if (tx x).length ≤ sizeLine then some (D.str (cutS (tx x) none (some ((k : Nat) : Int)))) else none) = _
 rw [if_pos (by rw [dA]; exact szS (by omega)), u5]
theorem sY {x : List Nat} (h : x.length ≤ 9000) (k : Nat) : gm (.str (tx x)) (some ((k : Nat) : Int)) none = some (.str (tx (x.drop k))) := by
 show (if (tx x).length ≤ sizeLine then some (D.str (cutS (tx x) (some ((k : Nat) : Int)) none)) else none) = _
 rw [if_pos (by rw [dA]; exact szS (by omega)), sC]
theorem Ai (b : D) (hb : bP b) (x : List Nat) (hx : x.length ≤ 3000) : W mL [.io 0 b, .imm (.str (tx x)), .un] (ft 0 fun md d y => (∃ v : Nat, d = .str (tx (spW v x))) ∧ bP y) := by
 unfold mL
 have e1 : (" " : Str) = tx [32] := rfl
 have e2 : (" x" : Str) = tx [32, 120] := rfl
 have e3 : ("Robot" : Str) = tx RO := rfl
 have e4 : ("  " : Str) = tx [32, 32] := rfl
 have e5 : ("0" : Str) = tx [48] := rfl
 have e6 : ("" : Str) = tx [] := rfl
 rw [e1, e2, e3, e4, e5, e6]
 obtain ⟨v, y, a1, a2, a3⟩ := cw (env := [.io 0 b, .imm (.str (tx x)), .un]) (i := 0) (a := mC (.int 8)) (many := 8) hb rfl rfl (by omega)
 rw [aE, bQ, a3, ai]
 refine ⟨by show 2 < 3; decide, ?_⟩
 rw [ay]
 show W _ [.io 0 y, .imm (.str (tx x)), .imm (.int (v : Nat))] _
 have f5 : gm (.str (tx x)) (some 5) none = some (.str (tx (x.drop 5))) := sY (x := x) (by omega) 5
 have f6 : gm (.str (tx x)) (some 6) none = some (.str (tx (x.drop 6))) := sY (x := x) (by omega) 6
 have t5 : gm (.str (tx x)) none (some 5) = some (.str (tx (x.take 5))) := yG (x := x) (by omega) 5
 have t6 : gm (.str (tx x)) none (some 6) = some (.str (tx (x.take 6))) := yG (x := x) (by omega) 6
 have p0 := dW (a := x) (b := [32]) (by simp; omega)
 have p1 := dW (a := [32]) (b := x) (by simp; omega)
 have p2 := dW (a := x) (b := [32, 120]) (by simp; omega)
 have p3 := dW (a := RO) (b := x.drop 5) (by simp [RO]; omega)
 have p4 := dW (a := x.take 5) (b := [32, 32]) (by simp; omega)
 have p4b := dW (a := x.take 5 ++ [32, 32]) (b := x.drop 6) (by simp; omega)
 have p5 := dW (a := x.take 6) (b := [48]) (by simp; omega)
 have p5b := dW (a := x.take 6 ++ [48]) (b := x.drop 6) (by simp; omega)
 obtain ⟨X, hX⟩ : ∃ X, X = tx x := ⟨_, rfl⟩
 have T : ∀ j : Nat, aq (ae (aG false) (af 2) (aa (mC (.int (j : Nat))))) [.io 0 y, .imm (.str X), .imm (.int (v : Nat))] = some (decide (v = j), [.io 0 y, .imm (.str X), .imm (.int (v : Nat))]) := fun j => by
  by_cases h : v = j
  ·subst h; simp -implicitDefEqProofs
  ·have : ¬ ((v : Nat) : Int) = (j : Nat) := by omega
   simp -implicitDefEqProofs [h, this]
 have fin : ∀ {m : ME} {w : List Nat} {rest : MS}, m [.io 0 y, .imm (.str X), .imm (.int (v : Nat))] = some (.str (tx w), [.io 0 y, .imm (.str X), .imm (.int (v : Nat))]) → w = spW v x → W (be m) [.io 0 y, .imm (.str X), .imm (.int (v : Nat))] (sqK rest (ft 0 fun md d y => (∃ v : Nat, d = .str (tx (spW v x))) ∧ bP y)) := fun {m w rest} h hw => by
  rw [cz, h, ai, dD]
  exact ⟨y, rfl, ⟨v, by rw [hw]⟩, a2⟩
 have fin0 : ∀ {m : ME} {w : List Nat}, m [.io 0 y, .imm (.str X), .imm (.int (v : Nat))] = some (.str (tx w), [.io 0 y, .imm (.str X), .imm (.int (v : Nat))]) → w = spW v x → W (be m) [.io 0 y, .imm (.str X), .imm (.int (v : Nat))] (ft 0 fun md d y => (∃ v : Nat, d = .str (tx (spW v x))) ∧ bP y) := fun {m w} h hw => by
  rw [cz, h, ai]
  exact ⟨y, rfl, ⟨v, by rw [hw]⟩, a2⟩
 rw [← hX] at f5 f6 t5 t6 p0 p1 p2 ⊢
 rw [aE, bI]
 show Gt (aq (ae (aG false) (af 2) (aa (mC (.int ((0 : Nat) : Int))))) _) _
 rw [T 0, ai]
 by_cases h0 : v = 0
 ·rw [if_pos (decide_eq_true h0)]
  refine fin (w := x ++ [32]) ?_ ?_
  ·clear T fin fin0
   generalize tx (x ++ [32]) = g0 at *
   generalize tx [32] = g1 at *
   simp -implicitDefEqProofs only [gV, ez, eE, aW, aL, aP, bp, List.getElem?_cons_succ, List.getElem?_cons_zero, Option.bind_some, Option.map_some, aV, get_slot, aO, p0]
   first | done | rfl
  ·unfold spW
   rw [if_pos h0]
 rw [if_neg (by simp [h0]), bA, ay]
 rw [aE, bI]
 show Gt (aq (ae (aG false) (af 2) (aa (mC (.int ((1 : Nat) : Int))))) _) _
 rw [T 1, ai]
 by_cases h1 : v = 1
 ·rw [if_pos (decide_eq_true h1)]
  refine fin (w := [32] ++ x) ?_ ?_
  ·clear T fin fin0
   generalize tx ([32] ++ x) = g0 at *
   generalize tx [32] = g1 at *
   simp -implicitDefEqProofs only [gV, ez, eE, aW, aL, aP, bp, List.getElem?_cons_succ, List.getElem?_cons_zero, Option.bind_some, Option.map_some, aV, get_slot, aO, p1]
   first | done | rfl
  ·unfold spW
   rw [if_neg h0, if_pos h1]; rfl
 rw [if_neg (by simp [h1]), bA, ay]
 rw [aE, bI]
 show Gt (aq (ae (aG false) (af 2) (aa (mC (.int ((2 : Nat) : Int))))) _) _
 rw [T 2, ai]
 by_cases h2 : v = 2
 ·rw [if_pos (decide_eq_true h2)]
  refine fin (w := x ++ [32, 120]) ?_ ?_
  ·clear T fin fin0
   generalize tx (x ++ [32, 120]) = g0 at *
   generalize tx [32, 120] = g1 at *
   simp -implicitDefEqProofs only [gV, ez, eE, aW, aL, aP, bp, List.getElem?_cons_succ, List.getElem?_cons_zero, Option.bind_some, Option.map_some, aV, get_slot, aO, p2]
   first | done | rfl
  ·unfold spW
   rw [if_neg h0, if_neg h1, if_pos h2]
 rw [if_neg (by simp [h2]), bA, ay]
 rw [aE, bI]
 show Gt (aq (ae (aG false) (af 2) (aa (mC (.int ((3 : Nat) : Int))))) _) _
 rw [T 3, ai]
 by_cases h3 : v = 3
 ·rw [if_pos (decide_eq_true h3)]
  refine fin (w := RO ++ x.drop 5) ?_ ?_
  ·clear T fin fin0
   generalize tx (RO ++ x.drop 5) = g0 at *
   generalize tx (x.drop 5) = g1 at *
   generalize tx RO = g2 at *
   simp -implicitDefEqProofs only [gV, ez, eE, aW, aL, aP, bp, List.getElem?_cons_succ, List.getElem?_cons_zero, Option.bind_some, Option.map_some, aV, get_slot, aO, f5, p3]
   first | done | rfl
  ·unfold spW
   rw [if_neg h0, if_neg h1, if_neg h2, if_pos h3]
 rw [if_neg (by simp [h3]), bA, ay]
 rw [aE, bI]
 show Gt (aq (ae (aG false) (af 2) (aa (mC (.int ((4 : Nat) : Int))))) _) _
 rw [T 4, ai]
 by_cases h4 : v = 4
 ·rw [if_pos (decide_eq_true h4)]
  refine fin (w := x.take 5 ++ [32, 32] ++ x.drop 6) ?_ ?_
  ·clear T fin fin0
   generalize tx (x.take 5 ++ [32, 32] ++ x.drop 6) = g0 at *
   generalize tx (x.take 5 ++ [32, 32]) = g1 at *
   generalize tx (x.take 5) = g2 at *
   generalize tx (x.drop 6) = g3 at *
   generalize tx [32, 32] = g4 at *
   simp -implicitDefEqProofs only [gV, ez, eE, aW, aL, aP, bp, List.getElem?_cons_succ, List.getElem?_cons_zero, Option.bind_some, Option.map_some, aV, get_slot, aO, t5, f6, p4, p4b]
   first | done | rfl
  ·unfold spW
   rw [if_neg h0, if_neg h1, if_neg h2, if_neg h3, if_pos h4]
 rw [if_neg (by simp [h4]), bA, ay]
 rw [aE, bI]
 show Gt (aq (ae (aG false) (af 2) (aa (mC (.int ((5 : Nat) : Int))))) _) _
 rw [T 5, ai]
 by_cases h5 : v = 5
 ·rw [if_pos (decide_eq_true h5)]
  refine fin (w := x.take 6 ++ [48] ++ x.drop 6) ?_ ?_
  ·clear T fin fin0
   generalize tx (x.take 6 ++ [48] ++ x.drop 6) = g0 at *
   generalize tx (x.take 6 ++ [48]) = g1 at *
   generalize tx (x.take 6) = g2 at *
   generalize tx (x.drop 6) = g3 at *
   generalize tx [48] = g4 at *
   simp -implicitDefEqProofs only [gV, ez, eE, aW, aL, aP, bp, List.getElem?_cons_succ, List.getElem?_cons_zero, Option.bind_some, Option.map_some, aV, get_slot, aO, t6, f6, p5, p5b]
   first | done | rfl
  ·unfold spW
   rw [if_neg h0, if_neg h1, if_neg h2, if_neg h3, if_neg h4, if_pos h5]
 rw [if_neg (by simp [h5]), bA, ay]
 rw [aE, bI]
 show Gt (aq (ae (aG false) (af 2) (aa (mC (.int ((6 : Nat) : Int))))) _) _
 rw [T 6, ai]
 by_cases h6 : v = 6
 ·rw [if_pos (decide_eq_true h6)]
  refine fin (w := x.take 5) ?_ ?_
  ·clear T fin fin0
   generalize tx (x.take 5) = g0 at *
   simp -implicitDefEqProofs only [gV, ez, eE, aW, aL, aP, bp, List.getElem?_cons_succ, List.getElem?_cons_zero, Option.bind_some, Option.map_some, aV, get_slot, aO, t5]
   first | done | rfl
  ·unfold spW
   rw [if_neg h0, if_neg h1, if_neg h2, if_neg h3, if_neg h4, if_neg h5, if_pos h6]
 rw [if_neg (by simp [h6]), bA, ay]
 refine fin0 (w := []) rfl ?_
 unfold spW
 rw [if_neg h0, if_neg h1, if_neg h2, if_neg h3, if_neg h4, if_neg h5, if_neg h6]
theorem vD {N : List Str} {mf : MS} {ss : List Sl} {P : D → Prop} (h : W mf (ss ++ List.replicate (N.length - ss.length) .un) (ft 0 fun md d x => P d ∧ bP x)) : ∃ d x, P d ∧ bP x ∧ res N mf ss [0] = some (d, [x]) := by
 obtain ⟨fl, h1, h2⟩ := h
 cases fl with
 | nx e =>
  obtain ⟨x, hx, h3, h4⟩ := h2
  refine ⟨_, x, h3, h4, ?_⟩
  unfold res gH
  rw [h1]
  simp [kP, hx]
 | ret md d e =>
  obtain ⟨x, hx, h3, h4⟩ := h2
  refine ⟨d, x, h3, h4, ?_⟩
  unfold res gH
  rw [h1]
  simp [kP, hx]
 | bk e => exact h2.elim
 | ct e => exact h2.elim
section
variable {M M2 : Mem} {env : aD}
theorem et.io1 (h : et M) {x : MEC} {N : List Str} {mf : MS} {P : D → Prop} (hf : ∀ b, bP b → W mf ([.io 0 b] ++ List.replicate (N.length - 1) .un) (ft 0 fun md d x => P d ∧ bP x)) (hx : x M env = some (.at 0, M)) :
  ∃ d c', P d ∧ et (M.set 0 c') ∧ dB N 1 [2] mf (bD x cI) M env = some (.fix d, M.set 0 c') := by
 obtain ⟨b, c, hb, hcb, hc⟩ := h
 obtain ⟨d, b', h1, h2, h3⟩ := vD (N := N) (ss := [.io 0 b]) (hf b hb)
 obtain ⟨c', q1, q2, q3⟩ := fS h2
 obtain ⟨c0, q4, q5, q6⟩ := fS hb
 rw [hcb] at q4; cases q4
 have hl : 0 < M.length := (List.getElem?_eq_some_iff.mp hc).1
 refine ⟨d, c', h1, ⟨b', c', h2, q1, List.getElem?_set_self hl⟩, jO (cs := [.at 0]) (M1 := M) (ss := [.io 0 b]) (ds := [b']) (dE hx (fW M env)) rfl ?_ ?_ h3 ?_⟩
 ·simp [okC, ioC, oy, mQ, mI]
 ·simp [dM, fc, hc, q5, q6]
 ·simp [ioC, gi, q1]
theorem et.io2 (h : et M) {x y : MEC} {N : List Str} {mf : MS} {P : D → Prop} {t : D} (hf : ∀ b, bP b → W mf ([.io 0 b, .imm t] ++ List.replicate (N.length - 2) .un) (ft 0 fun md d x => P d ∧ bP x)) (hx : x M env = some (.at 0, M)) (hy : y M env = some (.fix t, M)) :
  ∃ d c', P d ∧ et (M.set 0 c') ∧ dB N 2 [2, 0] mf (bD x (bD y cI)) M env = some (.fix d, M.set 0 c') := by
 obtain ⟨b, c, hb, hcb, hc⟩ := h
 obtain ⟨d, b', h1, h2, h3⟩ := vD (N := N) (ss := [.io 0 b, .imm t]) (hf b hb)
 obtain ⟨c', q1, q2, q3⟩ := fS h2
 obtain ⟨c0, q4, q5, q6⟩ := fS hb
 rw [hcb] at q4; cases q4
 have hl : 0 < M.length := (List.getElem?_eq_some_iff.mp hc).1
 refine ⟨d, c', h1, ⟨b', c', h2, q1, List.getElem?_set_self hl⟩, jO (cs := [.at 0, .fix t]) (M1 := M) (ss := [.io 0 b, .imm t]) (ds := [b']) (dE hx (dE hy (fW M env))) rfl ?_ ?_ h3 ?_⟩
 ·simp [okC, ioC, oy, mQ, mI]
 ·simp [dM, fc, hc, q5, q6]
 ·simp [ioC, gi, q1]
end
end Law
namespace Law
open PySem L2 Q
theorem tL (ns : List Int) (E : aD) (h : E[0]? = some (some (.fix (.scr (dI ns))))) : ∃ cb, et [cb] ∧ mn (b8 (aj (ak kr 3 jN (aC (au 0) (aC (mC (.int 0)) (aC (mC (.int 63)) aA)))) (aj (mC (.int 0)) aN))) [] E = some (.at 0, [cb]) := by
 obtain ⟨EE, hE⟩ : ∃ EE, EE = eb [] E := ⟨_, rfl⟩
 have h0 : EE[0]? = some (.imm (.scr (dI ns))) := by rw [hE]; unfold eb; rw [List.getElem?_map, h]; rfl
 obtain ⟨md, d, ⟨digs, rfl⟩, c1, _⟩ := pR (N := kr) (np := 3) (mf := jN) (a := aC (au 0) (aC (mC (.int 0)) (aC (mC (.int 63)) aA))) (env := EE) (e1 := EE) (as := [.imm (.scr (dI ns)), .imm (.int 0), .imm (.int 63)]) (ss := [.imm (.scr (dI ns)), .imm (.int 0), .imm (.int 63)]) (by simp -implicitDefEqProofs [h0]) rfl rfl rfl (td ns)
 have hb : bP (.lst [.lst (dI digs), .int 0]) := ⟨digs, 0, rfl⟩
 obtain ⟨cb, hcb, _, _⟩ := fS hb
 refine ⟨cb, ⟨_, _, hb, hcb, rfl⟩, ?_⟩
 have e1 : aj (ak kr 3 jN (aC (au 0) (aC (mC (.int 0)) (aC (mC (.int 63)) aA)))) (aj (mC (.int 0)) aN) EE = some ([.lst (dI digs), .int 0], EE) := by
  rw [mR, c1]; rfl
 rw [wC, ← hE, ie e1 (by simp)]
 simp -implicitDefEqProofs only [Option.bind_some, hcb, Option.map_some]
 rfl
theorem gR {R : List Rob} {O : List Ord} (hR : Rep R O) : ∀ w ∈ bt R ++ bz O, 10 ∉ w ∧ w.length ≤ 1600 ∧ w ≠ [] := by
 intro w hw
 obtain ⟨a, ha, rfl⟩ := List.getElem_of_mem hw
 have hlen := fY (R := R) (O := O)
 obtain ⟨H, k, V, h⟩ := nV hR (a := a) (by omega)
 have hg := h.at_
 rw [List.getElem?_eq_getElem ha] at hg
 have hg := Option.some.inj hg
 rw [hg]
 refine ⟨h.no10, ?_, ?_⟩
 ·have hm := h.many
  have := eR 32 13 (H :: fg k :: V) (fun w hw => by
   rcases List.mem_cons.mp hw with rfl | hw
   ·rw [h.H5]; omega
   rcases List.mem_cons.mp hw with rfl | hw
   ·have := (cV (n := k) (by have := h.k9; omega)).2; omega
   ·exact (h.hi w hw).2)
  simp only [List.length_cons] at this
  omega
 ·rw [ig]
  intro z
  have := congrArg List.length z
  rw [List.length_append, h.H5] at this
  simp at this
theorem i9 {c : Nat} : ∀ {K : List (List Nat)}, 2 ≤ K.length → aB c K ≠ []
 | [], h => absurd h (by simp)
 | [a], h => absurd h (by simp)
 | a :: b :: r, _ => by
  show a ++ c :: aB c (b :: r) ≠ []
  simp
theorem g9 {K : List (List Nat)} (h : ∀ w ∈ K, w.length ≤ 2000) (hl : K.length ≤ 22) : (aB 10 K).length ≤ 45000 := by
 have := eR 10 2000 K h
 have : K.length * (2000 + 1) ≤ 22 * (2000 + 1) := Nat.mul_le_mul_right _ hl
 omega
section
variable {R : List Rob} {O : List Ord} {M : Mem}
theorem ur (hR : Rep R O) : bt R ++ bz O = [] ∨ aB 10 (bt R ++ bz O) ≠ [] := by
 have hm := gR hR
 generalize bt R ++ bz O = L at *
 match L, hm with
 | [], _ => exact .inl rfl
 | [a], h => exact .inr (h a (by simp)).2.2
 | a :: b :: r, _ => exact .inr (i9 (by simp))
theorem iV (hR : Rep R O) : (bt R ++ bz O).length ≤ 20 := by
 have := fY (R := R) (O := O)
 have h1 := hR.rl
 have h2 := hR.ol
 omega
theorem f0 (hR : Rep R O) (h0 : 0 < M.length) : ∃ M', fv eP dX M [.fix (.str (tx (aB 10 (bt R ++ bz O))))] = some (.fix (.int 0), M') ∧ M'[0]? = M[0]? := by
 have hm := gR hR
 have h20 := iV hR
 have := g9 (K := bt R ++ bz O) (fun w hw => by have := (hm w hw).2.1; omega) (by omega)
 exact xC h0 hR (fun w hw => (hm w hw).1) (by omega) (ur hR)
def K1 (L : List (List Nat)) (a v : Nat) : List (List Nat) := L.take a ++ [spW v (L.getD a [])] ++ L.drop (a + 1)
def K2 (L : List (List Nat)) (a : Nat) : List (List Nat) := L.take a ++ [L.getD a []] ++ L.drop a
theorem getD_at {L : List (List Nat)} {a : Nat} (h : a < L.length) : L.getD a [] = L[a] := by rw [List.getD_eq_getElem?_getD, List.getElem?_eq_getElem h]; rfl
theorem sR {L : List (List Nat)} {a v : Nat} (h : a < L.length) : (K1 L a v).length = L.length := by
 unfold K1
 simp only [List.length_append, List.length_take, List.length_drop, List.length_cons, List.length_nil]
 omega
theorem tZ {L : List (List Nat)} {a : Nat} (h : a < L.length) : (K2 L a).length = L.length + 1 := by
 unfold K2
 simp only [List.length_append, List.length_take, List.length_drop, List.length_cons, List.length_nil]
 omega
theorem vN (hR : Rep R O) {a v : Nat} (ha : a < (bt R ++ bz O).length) : ∀ w ∈ K1 (bt R ++ bz O) a v, 10 ∉ w ∧ w.length ≤ 2000 := by
 have hm := gR hR
 generalize bt R ++ bz O = L at *
 intro w hw
 unfold K1 at hw
 rcases List.mem_append.mp hw with hw | hw
 ·rcases List.mem_append.mp hw with hw | hw
  ·obtain ⟨p, q, _⟩ := hm w (List.mem_of_mem_take hw)
   exact ⟨p, by omega⟩
  ·have e : w = spW v (L.getD a []) := by simpa using hw
   rw [getD_at ha] at e
   obtain ⟨p, q, _⟩ := hm L[a] (List.getElem_mem ha)
   have := xy v L[a]
   rw [e]
   exact ⟨xf v p, by omega⟩
 ·obtain ⟨p, q, _⟩ := hm w (List.mem_of_mem_drop hw)
  exact ⟨p, by omega⟩
theorem vG (hR : Rep R O) {a : Nat} (ha : a < (bt R ++ bz O).length) : ∀ w ∈ K2 (bt R ++ bz O) a, 10 ∉ w ∧ w.length ≤ 2000 := by
 have hm := gR hR
 generalize bt R ++ bz O = L at *
 intro w hw
 unfold K2 at hw
 rcases List.mem_append.mp hw with hw | hw
 ·rcases List.mem_append.mp hw with hw | hw
  ·obtain ⟨p, q, _⟩ := hm w (List.mem_of_mem_take hw)
   exact ⟨p, by omega⟩
  ·have e : w = L.getD a [] := by simpa using hw
   rw [getD_at ha] at e
   obtain ⟨p, q, _⟩ := hm L[a] (List.getElem_mem ha)
   rw [e]
   exact ⟨p, by omega⟩
 ·obtain ⟨p, q, _⟩ := hm w (List.mem_of_mem_drop hw)
  exact ⟨p, by omega⟩
theorem f1 (hR : Rep R O) (h0 : 0 < M.length) {a v : Nat} (ha : a < (bt R ++ bz O).length) (h2 : 2 ≤ (bt R ++ bz O).length) : ∃ M', fv eP dX M [.fix (.str (tx (aB 10 (K1 (bt R ++ bz O) a v))))] = some (.fix (.int ((a + 1 : Nat) : Int)), M') ∧ M'[0]? = M[0]? := by
 have hk := vN hR (v := v) ha
 have hl := sR (v := v) ha
 have h20 := iV hR
 have hlen := fY (R := R) (O := O)
 have := g9 (K := K1 (bt R ++ bz O) a v) (fun w hw => (hk w hw).2) (by omega)
 obtain ⟨H, k, V, h⟩ := nV hR (a := a) (by omega)
 have hg := h.at_
 have hat : (K1 (bt R ++ bz O) a v)[a]? = some (spW v (aB 32 (H :: fg k :: V))) := by
  unfold K1
  have lt : ((bt R ++ bz O).take a).length = a := by rw [List.length_take]; omega
  rw [List.append_assoc, List.getElem?_append_right (by omega), lt, Nat.sub_self, List.getD_eq_getElem?_getD, hg]
  rfl
 refine mH h0 hR (fun w hw => (hk w hw).1) (by omega) (.inr (i9 (by omega))) (fun k hka => ?_) (by omega) (fun x hx => ?_) (by omega) (by omega)
 ·unfold K1
  rw [List.append_assoc, List.getElem?_append_left (by rw [List.length_take]; omega), List.getElem?_take_of_lt hka]
 ·rw [hat] at hx
  rw [← Option.some.inj hx]
  exact sr h v
theorem f2 (hR : Rep R O) (h0 : 0 < M.length) {a : Nat} (ha : a < (bt R ++ bz O).length) : ∃ M', fv eP dX M [.fix (.str (tx (aB 10 (K2 (bt R ++ bz O) a))))] = some (.fix (.int ((a + 2 : Nat) : Int)), M') ∧ M'[0]? = M[0]? := by
 have hk := vG hR ha
 have hl := tZ ha
 have h20 := iV hR
 have hlen := fY (R := R) (O := O)
 have := g9 (K := K2 (bt R ++ bz O) a) (fun w hw => (hk w hw).2) (by omega)
 obtain ⟨H, k, V, h⟩ := nV hR (a := a) (by omega)
 have hg := h.at_
 have hK : K2 (bt R ++ bz O) a = (bt R ++ bz O).take (a + 1) ++ (bt R ++ bz O).drop a := by
  unfold K2
  rw [i5 hg, List.getD_eq_getElem?_getD, hg]; rfl
 have hat : (K2 (bt R ++ bz O) a)[a + 1]? = some (aB 32 (H :: fg k :: V)) := by
  have lt : ((bt R ++ bz O).take (a + 1)).length = a + 1 := by rw [List.length_take]; omega
  rw [hK, List.getElem?_append_right (by omega), lt, Nat.sub_self, List.getElem?_drop]
  exact hg
 refine mH (a := a + 1) h0 hR (fun w hw => (hk w hw).1) (by omega) (.inr (i9 (by omega))) (fun k hka => ?_) (by omega) (fun x hx => ?_) (by omega) (by omega)
 ·rw [hK, List.getElem?_append_left (by rw [List.length_take]; omega), List.getElem?_take_of_lt hka]
 ·rw [hat] at hx
  rw [← Option.some.inj hx]
  exact sS h
theorem f3 (hR : Rep R O) (h0 : 0 < M.length) (h1 : 1 ≤ (bt R ++ bz O).length) : ∃ M', fv eP dX M [.fix (.str (tx (aB 10 (bt R ++ bz O ++ [[]]))))] = some (.fix (.int (((bt R ++ bz O).length + 1 : Nat) : Int)), M') ∧ M'[0]? = M[0]? := by
 have hm := gR hR
 have h20 := iV hR
 have hlen := fY (R := R) (O := O)
 have hk : ∀ w ∈ bt R ++ bz O ++ [[]], 10 ∉ w ∧ w.length ≤ 2000 := fun w hw => by
  rcases List.mem_append.mp hw with hw | hw
  ·obtain ⟨p, q, _⟩ := hm w hw
   exact ⟨p, by omega⟩
  ·have e : w = [] := by simpa using hw
   rw [e]; exact ⟨by simp, by simp⟩
 have hl : (bt R ++ bz O ++ [[]]).length = (bt R ++ bz O).length + 1 := by rw [List.length_append]; rfl
 have := g9 (K := bt R ++ bz O ++ [[]]) (fun w hw => (hk w hw).2) (by omega)
 refine mH (a := (bt R ++ bz O).length) h0 hR (fun w hw => (hk w hw).1) (by omega) (.inr (i9 (by omega))) (fun k hka => ?_) (by omega) (fun x hx => ?_) (by omega) (by omega)
 ·rw [List.getElem?_append_left hka]
 ·rw [List.getElem?_append_right (Nat.le_refl _), Nat.sub_self] at hx
  rw [← Option.some.inj hx]
  exact lG (by simp) (by simp)
end
end Law
namespace Law
open PySem L2 Q
theorem rK (xs : List D) (k : Nat) : cutD xs none (some ((k : Nat) : Int)) = xs.take k := by
 unfold cutD
 have h1 : HT.sIx xs.length xs.length (some ((k : Nat) : Int)) = min k xs.length := HT.sIx_nat _ _ _
 have h2 : HT.sIx xs.length 0 none = 0 := rfl
 rw [h1, h2, List.drop_zero, Nat.sub_zero]
 simp [List.take_eq_take_iff]
theorem nE (xs : List D) (k : Nat) : cutD xs (some ((k : Nat) : Int)) none = xs.drop k := by
 unfold cutD
 have h1 : HT.sIx xs.length 0 (some ((k : Nat) : Int)) = min k xs.length := HT.sIx_nat _ _ _
 have h2 : HT.sIx xs.length xs.length none = xs.length := HT.sIx_none _ _
 rw [h1, h2, List.take_of_length_le (by rw [List.length_drop]; exact Nat.le_refl _)]
 by_cases h : k ≤ xs.length
 ·rw [Nat.min_eq_left h]
 ·rw [Nat.min_eq_right (by omega), List.drop_of_length_le (Nat.le_refl _), List.drop_of_length_le (by omega)]
section
variable {M M1 M2 : Mem} {env : aD}
theorem my {x y : MEC} {a b : Int} (hx : x M env = some (.fix (.int a), M1)) (hy : y M1 env = some (.fix (.int b), M2)) (hab : a = b) : jk (gG (aG true) x y) M env = some (false, M2) := by
 subst hab
 rw [xo, rg, hx, Option.bind_some]
 dsimp only
 rw [hy, Option.bind_some]
 show Option.bind ((aG true (.int a) (.int a)).map fun z => (aw.fix z, M2)) _ = _
 rw [lQ]
 simp
theorem uj {x y : MEC} {a b : Int} (hx : x M env = some (.fix (.int a), M1)) (hy : y M1 env = some (.fix (.int b), M2)) (hab : a = b) : gG (aG false) x y M env = some (.fix (.bl true), M2) := by
 subst hab
 rw [rg, hx, Option.bind_some]
 dsimp only
 rw [hy, Option.bind_some]
 show (aG false (.int a) (.int a)).map (fun z => (aw.fix z, M2)) = _
 rw [lQ]
 simp
theorem pb {x y : MEC} {a b : List D} {c1 c2 : aw} (hx : x M env = some (c1, M1)) (hy : y M1 env = some (c2, M2)) (r1 : rdC M2 c1 = some (.lst a)) (r2 : rdC M2 c2 = some (.lst b)) (hl : a.length + b.length ≤ sizeLine) : oj (jf ff x y) M env = some (.fix (.lst (a ++ b)), M2 ++ [.dead]) := by
 have hc : jf ff x y M env = some (.at M2.length, M2 ++ [.lst false ((a ++ b).map .fix)]) := by
  unfold jf
  rw [hx, Option.bind_some]
  dsimp only
  rw [hy, Option.bind_some]
  dsimp only
  rw [r1, Option.bind_some, r2, Option.bind_some, jx, if_pos hl]
  rfl
 unfold oj
 rw [hc, Option.bind_some]
 dsimp only
 rw [nB, Option.bind_some, jY]
 show some (aw.fix (.lst (a ++ b)), (M2 ++ [Cell.lst false ((a ++ b).map .fix)]).set M2.length .dead) = _
 rw [List.set_append_right _ _ (Nat.le_refl _), Nat.sub_self]
 rfl
theorem Aw {x : MEC} {d : D} (hx : x M env = some (.fix d, M1)) : pq (bD x cI) M env = some (.at M1.length, M1 ++ [.lst false ([d].map .fix)]) := by
 unfold pq
 rw [dE hx (fW M1 env), Option.bind_some]
 rfl
theorem iF {x : MEC} {t d : D} (hx : x M env = some (.fix t, M1)) (hr : fv eP dX M1 [.fix t] = some (.fix d, M2)) : f9 eP 1 dX (bD x cI) M env = some (.fix d, M2) :=
 wU (dE hx (fW M1 env)) rfl hr
theorem iz {m : ME} {d : D} {S : En} (hS : eb M env = S) (h : m S = some (d, S)) : bB m M env = some (.fix d, M) := by
 rw [ou, hS, h]; rfl
end
section
variable {S : En} {X : List D} {a : Nat}
theorem jn3 {T : Str} (h3 : S[3]? = some (.imm (.lst X))) (hj : gS ⟨#[10]⟩ (.lst X) = some (.str T)) : d7 (mC (.str "\n")) (af 3) S = some (.str T, S) := by
 have e8 : ("\n" : Str) = ⟨#[10]⟩ := rfl
 rw [e8]
 simp -implicitDefEqProofs only [iH, bp, aL, h3, Option.bind_some, Option.map_some, aV, get_slot, hj]
theorem jn6 {T : Str} (h6 : S[6]? = some (.imm (.lst X))) (hj : gS ⟨#[10]⟩ (.lst X) = some (.str T)) : d7 (mC (.str "\n")) (af 6) S = some (.str T, S) := by
 have e8 : ("\n" : Str) = ⟨#[10]⟩ := rfl
 rw [e8]
 simp -implicitDefEqProofs only [iH, bp, aL, h6, Option.bind_some, Option.map_some, aV, get_slot, hj]
theorem ln3 (h3 : S[3]? = some (.imm (.lst X))) : mBi bT (aM (af 3) aY) S = some (.int (X.length : Nat), S) := by
 simp -implicitDefEqProofs only [dZ, cF, cS, b0, cj, aL, h3, Option.bind_some, Option.map_some, aV, get_slot, eJ]
theorem CH (h3 : S[3]? = some (.imm (.lst X))) : ae aK (aa (mBi bT (aM (af 3) aY))) (aa (mC (.int 1))) S = some (.int ((X.length + 1 : Nat) : Int), S) := by
 simp -implicitDefEqProofs only [aW, aP, bp, ln3 h3, Option.bind_some, Option.map_some, aO]
 rfl
theorem at5 (h5 : S[5]? = some (.imm (.int (a : Nat)))) (j : Nat) : ae aK (af 5) (aa (mC (.int (j : Nat)))) S = some (.int ((a + j : Nat) : Int), S) := by
 simp -implicitDefEqProofs only [aW, aL, aP, bp, h5, Option.bind_some, Option.map_some, aV, get_slot, aO]
 rfl
theorem yN {d : D} (h3 : S[3]? = some (.imm (.lst X))) (h5 : S[5]? = some (.imm (.int (a : Nat)))) (hx : X[a]? = some d) : ae dIx (af 3) (af 5) S = some (d, S) := by
 have hi : dIx (.lst X) (.int (a : Nat)) = some d := by rw [Q.a8, fj, hx]
 simp -implicitDefEqProofs only [aW, aL, h3, h5, Option.bind_some, Option.map_some, aV, get_slot, hi]
theorem yh (h3 : S[3]? = some (.imm (.lst X))) (h5 : S[5]? = some (.imm (.int (a : Nat)))) : mSl cq (af 3) cf (b9 (au 5)) S = some (.lst (X.take a), S) := by
 have hs : cq (.lst X) none (some ((a : Nat) : Int)) = some (.lst (X.take a)) := by
  show some (D.lst (cutD X none (some ((a : Nat) : Int)))) = _
  rw [rK]
 simp -implicitDefEqProofs only [gV, eE, ez, sL, aL, h3, h5, Option.bind_some, Option.map_some, aV, get_slot, hs]
theorem BI (h3 : S[3]? = some (.imm (.lst X))) (h5 : S[5]? = some (.imm (.int (a : Nat)))) : mSl cq (af 3) (b9 (au 5)) cf S = some (.lst (X.drop a), S) := by
 have hs : cq (.lst X) (some ((a : Nat) : Int)) none = some (.lst (X.drop a)) := by
  show some (D.lst (cutD X (some ((a : Nat) : Int)) none)) = _
  rw [nE]
 simp -implicitDefEqProofs only [gV, eE, ez, sL, aL, h3, h5, Option.bind_some, Option.map_some, aV, get_slot, hs]
theorem BK (h3 : S[3]? = some (.imm (.lst X))) (h5 : S[5]? = some (.imm (.int (a : Nat)))) : mSl cq (af 3) (b9 (ae aK (af 5) (aa (mC (.int 1))))) cf S = some (.lst (X.drop (a + 1)), S) := by
 have hs : cq (.lst X) (some ((a + 1 : Nat) : Int)) none = some (.lst (X.drop (a + 1))) := by
  show some (D.lst (cutD X (some ((a + 1 : Nat) : Int)) none)) = _
  rw [nE]
 have ha : ae aK (af 5) (aa (mC (.int 1))) S = some (.int ((a + 1 : Nat) : Int), S) := at5 h5 1
 simp -implicitDefEqProofs only [gV, eE, ez, aL, h3, ha, Option.bind_some, Option.map_some, aV, get_slot, hs]
theorem jn2 {d : D} {T : Str} (h3 : S[3]? = some (.imm (.lst X))) (h5 : S[5]? = some (.imm (.int (a : Nat)))) (hx : X[a]? = some d) (hl : X.length ≤ 100) (hj : gS ⟨#[10]⟩ (.lst (X.take a ++ [d] ++ X.drop a)) = some (.str T)) :
  d7 (mC (.str "\n")) (aa (ae ff (aa (ae ff (aa (mSl cq (af 3) cf (b9 (au 5)))) (aa (b8 (aj (ae dIx (af 3) (af 5)) aN))))) (aa (mSl cq (af 3) (b9 (au 5)) cf)))) S = some (.str T, S) := by
 have e8 : ("\n" : Str) = ⟨#[10]⟩ := rfl
 rw [e8]
 have s1 := yh h3 h5
 have s2 := BI h3 h5
 have e1 : aj (ae dIx (af 3) (af 5)) aN S = some ([d], S) := by rw [mR, yN h3 h5 hx]; rfl
 have s3 : b8 (aj (ae dIx (af 3) (af 5)) aN) S = some (.lst [d], S) := ie e1 (by simp)
 have k1 : ff (.lst (X.take a)) (.lst [d]) = some (.lst (X.take a ++ [d])) := by rw [jx, if_pos (szS (by rw [List.length_take]; simp; omega))]
 have k2 : ff (.lst (X.take a ++ [d])) (.lst (X.drop a)) = some (.lst (X.take a ++ [d] ++ X.drop a)) := by rw [jx, if_pos (szS (by rw [List.length_append, List.length_take, List.length_drop]; simp; omega))]
 generalize X.take a ++ [d] ++ X.drop a = Y3 at *
 generalize X.take a ++ [d] = Y2 at *
 generalize X.take a = Y1 at *
 generalize X.drop a = Y4 at *
 simp -implicitDefEqProofs only [iH, bp, aW, aP, s1, s2, s3, k1, k2, Option.bind_some, Option.map_some, aO, hj]
theorem gt3 (h3 : S[3]? = some (.imm (.lst X))) : aq (ae dGt (aa (mBi bT (aM (af 3) aY))) (aa (mC (.int 1)))) S = some (decide (1 < X.length), S) := by
 have hg : dGt (.int (X.length : Nat)) (.int 1) = some (.bl (decide (1 < X.length))) := by
  show some (D.bl (decide (((X.length : Nat) : Int) > 1))) = _
  by_cases h : 1 < X.length
  ·have : ((X.length : Nat) : Int) > 1 := by omega
   simp [h, this]
  ·have : ¬ ((X.length : Nat) : Int) > 1 := by omega
   simp [h, this]
 simp -implicitDefEqProofs only [cu, aW, aP, bp, ln3 h3, Option.bind_some, Option.map_some, aO, hg]
theorem eq3 (h3 : S[3]? = some (.imm (.lst X))) : aq (ae (aG false) (aa (mBi bT (aM (af 3) aY))) (aa (mC (.int 0)))) S = some (decide (X.length = 0), S) := by
 have hg : aG false (.int (X.length : Nat)) (.int 0) = some (.bl (decide (X.length = 0))) := by
  rw [lQ]
  by_cases h : X.length = 0
  ·have : ((X.length : Nat) : Int) = 0 := by omega
   simp [h, this]
  ·have : ¬ ((X.length : Nat) : Int) = 0 := by omega
   simp [h, this]
 simp -implicitDefEqProofs only [cu, aW, aP, bp, ln3 h3, Option.bind_some, Option.map_some, aO, hg]
theorem BS {T : Str} {U : Str} (h4 : S[4]? = some (.imm (.str T))) (ha : aK (.str T) (.str ⟨#[10]⟩) = some (.str U)) : ae aK (af 4) (aa (mC (.str "\n"))) S = some (.str U, S) := by
 have e8 : ("\n" : Str) = ⟨#[10]⟩ := rfl
 rw [e8]
 simp -implicitDefEqProofs only [aW, aL, aP, bp, h4, Option.bind_some, Option.map_some, aV, get_slot, aO, ha]
theorem wr4 {RW : D} {RD OD : List D} {T : Str} (h2 : S[2]? = some (.imm RW)) (h4 : S[4]? = some (.imm (.str T))) (i0 : dIx RW (.int 0) = some (.lst RD)) (i1 : dIx RW (.int 1) = some (.lst OD)) (wr : res ik jh [.imm (.lst RD), .imm (.lst OD)] [] = some (.str T, [])) :
  aq (ae (aG true) (aa (ak ik 2 jh (aC (ae dIx (af 2) (aa (mC (.int 0)))) (aC (ae dIx (af 2) (aa (mC (.int 1)))) aA)))) (af 4)) S = some (false, S) := by
 have c : ak ik 2 jh (aC (ae dIx (af 2) (aa (mC (.int 0)))) (aC (ae dIx (af 2) (aa (mC (.int 1)))) aA)) S = some (.str T, S) := by
  rw [cU]
  simp -implicitDefEqProofs [h2, i0, i1, wr, -Q.a8]
 simp -implicitDefEqProofs only [cu, aW, aL, aP, c, h4, Option.bind_some, Option.map_some, aV, get_slot, aO, eI, if_true, decide_true, Bool.not_true]
theorem ll2 {RW LD : D} (h2 : S[2]? = some (.imm RW)) (hr : res lI ku [.imm RW] [] = some (LD, [])) : ak lI 1 ku (fo 2 aA) S = some (LD, S) := by
 rw [cU]
 simp -implicitDefEqProofs [h2, hr]
end
end Law
namespace Law
open PySem L2 Q
abbrev eG (SC RW LD TX : D) (s5 s6 : Option aw) : aD := [some (.fix SC), some (.at 0), some (.fix RW), some (.fix LD), some (.fix TX), s5, s6]
theorem law_true (ns : List Int) (h : ns.length ≤ 63) : ∃ M env, sg [] (some (.fix (.scr (ns.map D.int))) :: List.replicate (uD.length - 1) none) = some (.ret (.fix (.bl true)) M env) := by
 suffices hh : WC sg [] [some (.fix (.scr (dI ns))), none, none, none, none, none, none] (fun fl => ∃ M env, fl = .ret (.fix (.bl true)) M env) by
  obtain ⟨fl, h1, M, env, rfl⟩ := hh
  exact ⟨M, env, h1⟩
 obtain ⟨cb, B1, A1⟩ := tL ns [some (.fix (.scr (dI ns))), none, none, none, none, none, none] rfl
 unfold sg
 refine eh A1 (by show 1 < 7; decide) ?_
 obtain ⟨SC, hSC⟩ : ∃ X, X = D.scr (dI ns) := ⟨_, rfl⟩
 rw [← hSC]
 show WC _ [cb] [some (.fix SC), some (.at 0), none, none, none, none, none] _
 obtain ⟨d, c', ⟨R, O, hR, rfl⟩, B2, A2⟩ := B1.io1 (env := [some (.fix SC), some (.at 0), none, none, none, none, none]) (N := kM) (mf := mG) (P := fun d => ∃ R O, Rep R O ∧ d = .lst [.lst (R.map di), .lst (O.map dm)]) (x := de 1) wI rfl
 refine eh A2 (by show 2 < 7; decide) ?_
 obtain ⟨M2, hM2⟩ : ∃ X, X = [cb].set 0 c' := ⟨_, rfl⟩
 rw [← hM2] at B2 ⊢
 obtain ⟨RW, hRW⟩ : ∃ X, X = D.lst [.lst (R.map di), .lst (O.map dm)] := ⟨_, rfl⟩
 have i0 : dIx RW (.int 0) = some (.lst (R.map di)) := by rw [hRW]; rfl
 have i1 : dIx RW (.int 1) = some (.lst (O.map dm)) := by rw [hRW]; rfl
 have ll := rT hR
 rw [← hRW] at ll ⊢
 have wr := uF hR
 have hTX : rL R O = tx (aB 10 (bt R ++ bz O)) := rfl
 rw [hTX] at wr
 have hm := gR hR
 have h20 := iV hR
 have F0 := fun M => f0 (M := M) hR
 have F1 := fun M a v => f1 (M := M) hR (a := a) (v := v)
 have F2 := fun M a => f2 (M := M) hR (a := a)
 have F3 := fun M => f3 (M := M) hR
 have k1 := fun a v => vN hR (a := a) (v := v)
 have k2 := fun a => vG hR (a := a)
 obtain ⟨L, hL⟩ : ∃ L, L = bt R ++ bz O := ⟨_, rfl⟩
 rw [← hL] at ll wr hm h20 F0 F1 F2 F3 k1 k2
 have jL := jB (c := 10) (ws := L) (by omega) (fun w hw => by have := (hm w hw).2.1; omega)
 have tl := g9 (K := L) (fun w hw => by have := (hm w hw).2.1; omega) (by omega)
 show WC _ M2 [some (.fix SC), some (.at 0), some (.fix RW), none, none, none, none] _
 refine eh (M1 := M2) (v := .fix (.lst (sW L))) (iz rfl (ll2 (cy rfl) ll)) (by show 3 < 7; decide) ?_
 show WC _ M2 [some (.fix SC), some (.at 0), some (.fix RW), some (.fix (.lst (sW L))), none, none, none] _
 obtain ⟨T, hT⟩ : ∃ T, T = tx (aB 10 L) := ⟨_, rfl⟩
 rw [← hT] at jL wr F0
 refine eh (M1 := M2) (v := .fix (.str T)) (iz rfl (jn3 (cy rfl) jL)) (by show 4 < 7; decide) ?_
 have lX : (sW L).length = L.length := List.length_map _
 obtain ⟨X, hX⟩ : ∃ X, X = sW L := ⟨_, rfl⟩
 rw [← hX] at lX ⊢
 show WC _ M2 (eG SC RW (.lst X) (.str T) none none) _
 have hl2 : 0 < M2.length := by
  obtain ⟨_, c, _, _, q⟩ := B2
  exact (List.getElem?_eq_some_iff.mp q).1
 obtain ⟨M3, r3, m3⟩ := F0 M2 hl2
 have B3 : et M3 := by
  obtain ⟨b, c, q1, q2, q3⟩ := B2
  exact ⟨b, c, q1, q2, by rw [m3]; exact q3⟩
 have T5 : cOr (gv (aq (ae (aG true) (aa (ak ik 2 jh (aC (ae dIx (af 2) (aa (mC (.int 0)))) (aC (ae dIx (af 2) (aa (mC (.int 1)))) aA)))) (af 4)))) (jk (gG (aG true) (f9 eP 1 dX (bD (bB (au 4)) cI)) (bB (mC (.int 0))))) M2 (eG SC RW (.lst X) (.str T) none none) = some (false, M3) := by
  have w := wr4 (S := eb M2 (eG SC RW (.lst X) (.str T) none none)) (T := T) (cy rfl) (cy rfl) i0 i1 wr
  have c := my (env := eG SC RW (.lst X) (.str T) none none) (iF (x := bB (au 4)) (M := M2) (M1 := M2) (t := .str T) rfl r3) (y := bB (mC (.int 0))) (M2 := M3) (b := 0) rfl rfl
  rw [yx, mT, w]
  exact c
 refine nr T5 (fun z => by cases z) fun _ => ?_
 rw [lV, lJ]
 have T6 : gv (aq (ae (aG false) (aa (mBi bT (aM (af 3) aY))) (aa (mC (.int 0))))) M3 (eG SC RW (.lst X) (.str T) none none) = some (decide (X.length = 0), M3) := by
  have w := eq3 (S := eb M3 (eG SC RW (.lst X) (.str T) none none)) (X := X) (cy rfl)
  rw [mT, w]; rfl
 refine nr T6 (fun _ => l0 (v := .fix (.bl true)) (M1 := M3) rfl ⟨_, _, rfl⟩) fun hz => ?_
 have hz := of_decide_eq_false hz
 rw [lV, lJ]
 have hl1 : 1 ≤ L.length := by omega
 have A7 : bB (mBi bT (aM (af 3) aY)) M3 (eG SC RW (.lst X) (.str T) none none) = some (.fix (.int ((L.length : Nat) : Int)), M3) := by
  rw [← lX]
  exact iz rfl (ln3 (cy rfl))
 obtain ⟨a, c7, ha, B4, A7b⟩ := B3.draw (env := eG SC RW (.lst X) (.str T) none none) (x := de 1) (y := bB (mBi bT (aM (af 3) aY))) (many := (L.length : Nat)) rfl A7 (by omega)
 have ha : a < L.length := by omega
 refine eh A7b (by show 5 < 7; decide) ?_
 generalize M3.set 0 c7 = M4 at *
 show WC _ M4 (eG SC RW (.lst X) (.str T) (some (.fix (.int (a : Nat)))) none) _
 -- the line spoilt
 have hxa : X[a]? = some (.str (tx L[a])) := by
  rw [hX]
  show (L.map fun w => D.str (tx w))[a]? = _
  rw [List.getElem?_map, List.getElem?_eq_getElem ha]; rfl
 have ma := hm L[a] (List.getElem_mem ha)
 have A8a : bB (mSl cq (af 3) cf (b9 (au 5))) M4 (eG SC RW (.lst X) (.str T) (some (.fix (.int (a : Nat)))) none) = some (.fix (.lst (X.take a)), M4) := iz rfl (yh (cy rfl) (cy rfl))
 have A8b : bB (ae dIx (af 3) (af 5)) M4 (eG SC RW (.lst X) (.str T) (some (.fix (.int (a : Nat)))) none) = some (.fix (.str (tx L[a])), M4) := iz rfl (yN (cy rfl) (cy rfl) hxa)
 obtain ⟨d, c8, ⟨v, rfl⟩, B5, A8c⟩ := B4.io2 (env := eG SC RW (.lst X) (.str T) (some (.fix (.int (a : Nat)))) none) (N := oo) (mf := mL) (P := fun d => ∃ v : Nat, d = .str (tx (spW v L[a]))) (x := de 1) (y := bB (ae dIx (af 3) (af 5))) (t := .str (tx L[a])) (fun b hb => Ai b hb L[a] (by omega)) rfl A8b
 generalize M4.set 0 c8 = M5 at *
 have A8d := Aw A8c
 have A8e := pb A8a A8d (a := X.take a) (b := [.str (tx (spW v L[a]))]) rfl (by
  show ((M5 ++ [Cell.lst false ([D.str (tx (spW v L[a]))].map .fix)])[M5.length]?).bind Cell.flat = _
  rw [nB, Option.bind_some]; exact jY false _) (szS (by rw [List.length_take]; simp; omega))
 have A8f : ∀ M, bB (mSl cq (af 3) (b9 (ae aK (af 5) (aa (mC (.int 1))))) cf) M (eG SC RW (.lst X) (.str T) (some (.fix (.int (a : Nat)))) none) = some (.fix (.lst (X.drop (a + 1))), M) := fun M => iz rfl (BK (cy rfl) (cy rfl))
 have A8g := pb A8e (A8f _) (a := X.take a ++ [.str (tx (spW v L[a]))]) (b := X.drop (a + 1)) rfl rfl (szS (by rw [List.length_append, List.length_take, List.length_drop]; simp; omega))
 have hK1 : X.take a ++ [.str (tx (spW v L[a]))] ++ X.drop (a + 1) = sW (K1 L a v) := by
  unfold K1 sW
  rw [getD_at ha, hX]
  unfold sW
  rw [List.map_append, List.map_append, List.map_take, List.map_drop]
  rfl
 have hK2 : X.take a ++ [.str (tx L[a])] ++ X.drop a = sW (K2 L a) := by
  unfold K2 sW
  rw [getD_at ha, hX]
  unfold sW
  rw [List.map_append, List.map_append, List.map_take, List.map_drop]
  rfl
 rw [hK1] at A8g
 refine eh A8g (by show 6 < 7; decide) ?_
 have B6 := (B5.app (X := [Cell.lst false ([D.str (tx (spW v L[a]))].map .fix)])).app (X := [Cell.dead])
 have B6 := B6.app (X := [Cell.dead])
 generalize M5 ++ [Cell.lst false ([D.str (tx (spW v L[a]))].map .fix)] ++ [Cell.dead] ++ [Cell.dead] = M6 at *
 show WC _ M6 (eG SC RW (.lst X) (.str T) (some (.fix (.int (a : Nat)))) (some (.fix (.lst (sW (K1 L a v)))))) _
 have hl6 : 0 < M6.length := by
  obtain ⟨_, c, _, _, q⟩ := B6
  exact (List.getElem?_eq_some_iff.mp q).1
 have kk1 := k1 a v ha
 have kk2 := k2 a ha
 have j1 := jB (c := 10) (ws := K1 L a v) (by rw [sR ha]; omega) (fun w hw => (kk1 w hw).2)
 have j2 := jB (c := 10) (ws := K2 L a) (by rw [tZ ha]; omega) (fun w hw => (kk2 w hw).2)
 -- the spoilt report
 have T9 : ∃ M7, 0 < M7.length ∧ oi (gv (aq (ae dGt (aa (mBi bT (aM (af 3) aY))) (aa (mC (.int 1)))))) (jk (gG (aG true) (f9 eP 1 dX (bD (lU [6] (bB (d7 (mC (.str "\n")) (af 6)))) cI)) (bB (ae aK (af 5) (aa (mC (.int 1))))))) M6 (eG SC RW (.lst X) (.str T) (some (.fix (.int (a : Nat)))) (some (.fix (.lst (sW (K1 L a v)))))) = some (false, M7) := by
  have w := gt3 (S := eb M6 (eG SC RW (.lst X) (.str T) (some (.fix (.int (a : Nat)))) (some (.fix (.lst (sW (K1 L a v))))))) (X := X) (cy rfl)
  rw [w6, mT, w]
  by_cases h2 : 1 < X.length
  ·obtain ⟨M7, r7, m7⟩ := F1 M6 a v hl6 ha (by omega)
   have hl7 : 0 < M7.length := by
    obtain ⟨_, c, _, _, q⟩ := B6
    rw [← m7] at q
    exact (List.getElem?_eq_some_iff.mp q).1
   refine ⟨M7, hl7, ?_⟩
   obtain ⟨Z, hZ⟩ : ∃ Z, Z = sW (K1 L a v) := ⟨_, rfl⟩
   rw [← hZ] at j1 ⊢
   have q : lU [6] (bB (d7 (mC (.str "\n")) (af 6))) M6 (eG SC RW (.lst X) (.str T) (some (.fix (.int (a : Nat)))) (some (.fix (.lst Z)))) = some (.fix (.str (tx (aB 10 (K1 L a v)))), M6) := by
    have e : jz M6 [6] 0 (eG SC RW (.lst X) (.str T) (some (.fix (.int (a : Nat)))) (some (.fix (.lst Z)))) = some ([some (.fix SC), none, some (.fix RW), some (.fix (.lst X)), some (.fix (.str T)), some (.fix (.int (a : Nat))), some (.fix (.lst Z))], []) := rfl
    have o : bB (d7 (mC (.str "\n")) (af 6)) (jZ M6) [some (.fix SC), none, some (.fix RW), some (.fix (.lst X)), some (.fix (.str T)), some (.fix (.int (a : Nat))), some (.fix (.lst Z))] = some (.fix (.str (tx (aB 10 (K1 L a v)))), jZ M6) := iz rfl (jn6 (cy rfl) j1)
    unfold lU
    rw [e, Option.bind_some]
    dsimp only
    rw [o]
    rfl
   have c := my (iF q r7) (y := bB (ae aK (af 5) (aa (mC (.int 1))))) (M2 := M7) (b := ((a + 1 : Nat) : Int)) (iz rfl (at5 (cy rfl) 1)) rfl
   rw [decide_eq_true h2]
   exact c
  ·rw [decide_eq_false h2]
   exact ⟨M6, hl6, rfl⟩
 obtain ⟨M7, hl7, T9⟩ := T9
 refine nr T9 (fun z => by cases z) fun _ => ?_
 rw [lV, lJ]
 generalize sW (K1 L a v) = Z
 -- a line twice
 obtain ⟨M8, r8, m8⟩ := F2 M7 a hl7 ha
 have hl8 : 0 < M8.length := by
  cases M8 with
  | nil => rw [List.getElem?_eq_getElem hl7] at m8; cases m8
  | cons c r => simp
 have T10 := my (env := eG SC RW (.lst X) (.str T) (some (.fix (.int (a : Nat)))) (some (.fix (.lst Z)))) (iF (M := M7) (iz rfl (jn2 (T := tx (aB 10 (K2 L a))) (cy rfl) (cy rfl) hxa (by omega) (by rw [hK2]; exact j2))) r8) (y := bB (ae aK (af 5) (aa (mC (.int 2))))) (M2 := M8) (b := ((a + 2 : Nat) : Int)) (iz rfl (at5 (cy rfl) 2)) rfl
 refine nr T10 (fun z => by cases z) fun _ => ?_
 rw [lV, lJ]
 -- an empty line behind
 obtain ⟨M9, r9, _⟩ := F3 M8 hl8 hl1
 have hT9 : aK (.str T) (.str ⟨#[10]⟩) = some (.str (tx (aB 10 (L ++ [[]])))) := by
  rw [hT, iE 10 [] L (fun z => by rw [z] at hl1; simp at hl1)]
  show aK (.str (tx (aB 10 L))) (.str (tx [10])) = _
  rw [add_str, if_pos (ui (by rw [dA, dA]; simp; omega)), kG]
 have T11 := uj (env := eG SC RW (.lst X) (.str T) (some (.fix (.int (a : Nat)))) (some (.fix (.lst Z)))) (iF (M := M8) (iz rfl (BS (cy rfl) hT9)) r9) (y := bB (ae aK (aa (mBi bT (aM (af 3) aY))) (aa (mC (.int 1))))) (M2 := M9) (b := ((X.length + 1 : Nat) : Int)) (iz rfl (CH (cy rfl))) (by rw [lX])
 exact l0 T11 ⟨_, _, rfl⟩
end Law
namespace Law
open PySem PySem.Spec PyProof.Rows L2 Q
section
theorem zL {l : PySem.W.OpenLaw} {w : World} {K : PySem.W.Frag} {h : Heap} {mg : Str → Option Value} {fa : Addr} (hl : l.prog = (PySem.W.OpenLaw.row PySem.Challenge.rw_clearfloor_k25_lines_of_a_report).prog) (X : K.In h) (G : h.Ns mainGlobals mg) (hfa : mg "law" = some (.ref fa)) (S : iB hFa hFn hTs hTf hEs hEx w h K) :
  ∃ fd : FuncData, (∀ (s : Shared) (v : Value), BindsTo s fd ⟨[v], []⟩ [("script", v)]) ∧ ∀ base : Heap, K.In base → base.Ns mainGlobals mg → (∀ p ∈ ([He.cT K (("read_number", none) : Str × Option Str)] : List (Addr × Addr)), GxR.TabB base mg p.1 p.2) → FnG l.prog w K mg base CX0 10 fa fd ["script"] (SpG K [He.cT K (("read_number", none) : Str × Option Str)] 63) := by
 obtain ⟨m0, mr⟩ := He.ba S.x.more
 obtain ⟨m1, mr⟩ := He.ba mr
 obtain ⟨m2, mr⟩ := He.ba mr
 obtain ⟨m3, mr⟩ := He.ba mr
 obtain ⟨m4, mr⟩ := He.ba mr
 have m5 := mr
 obtain ⟨fd_law_cell, F_z1⟩ := S.dfn 0 (d := ⟨(("_law_cell", none) : Str × Option Str), "_law_cell", "_law_cell", defArgs kj, defBody kj, defScope kj, [], []⟩) rfl
 have F_z1 : Fun K "_law_cell" "_law_cell" kj (He.fAd K (("_law_cell", none) : Str × Option Str)) fd_law_cell := bU F_z1
 obtain ⟨fd_law_digits, F_zo⟩ := S.dfn 1 (d := ⟨(("_law_digits", none) : Str × Option Str), "_law_digits", "_law_digits", defArgs kY, defBody kY, defScope kY, [], []⟩) rfl
 have F_zo : Fun K "_law_digits" "_law_digits" kY (He.fAd K (("_law_digits", none) : Str × Option Str)) fd_law_digits := bU F_zo
 obtain ⟨fd_law_draw, F_zz⟩ := S.dfn 2 (d := ⟨(("_law_draw", none) : Str × Option Str), "_law_draw", "_law_draw", defArgs kI, defBody kI, defScope kI, [], []⟩) rfl
 have F_zz : Fun K "_law_draw" "_law_draw" kI (He.fAd K (("_law_draw", none) : Str × Option Str)) fd_law_draw := bU F_zz
 obtain ⟨fd_law_place, F_zt⟩ := S.dfn 3 (d := ⟨(("_law_place", none) : Str × Option Str), "_law_place", "_law_place", defArgs kv, defBody kv, defScope kv, [], []⟩) rfl
 have F_zt : Fun K "_law_place" "_law_place" kv (He.fAd K (("_law_place", none) : Str × Option Str)) fd_law_place := bU F_zt
 obtain ⟨fd_law_number, F_zr⟩ := S.dfn 4 (d := ⟨(("_law_number", none) : Str × Option Str), "_law_number", "_law_number", defArgs lN, defBody lN, defScope lN, [], []⟩) rfl
 have F_zr : Fun K "_law_number" "_law_number" lN (He.fAd K (("_law_number", none) : Str × Option Str)) fd_law_number := bU F_zr
 obtain ⟨fd_law_robot, F_zx⟩ := S.dfn 5 (d := ⟨(("_law_robot", none) : Str × Option Str), "_law_robot", "_law_robot", defArgs j9, defBody j9, defScope j9, [], []⟩) rfl
 have F_zx : Fun K "_law_robot" "_law_robot" j9 (He.fAd K (("_law_robot", none) : Str × Option Str)) fd_law_robot := bU F_zx
 obtain ⟨fd_law_order, F_zv⟩ := S.dfn 6 (d := ⟨(("_law_order", none) : Str × Option Str), "_law_order", "_law_order", defArgs kO, defBody kO, defScope kO, [], []⟩) rfl
 have F_zv : Fun K "_law_order" "_law_order" kO (He.fAd K (("_law_order", none) : Str × Option Str)) fd_law_order := bU F_zv
 obtain ⟨fd_law_told, F_z0⟩ := S.dfn 7 (d := ⟨(("_law_told", none) : Str × Option Str), "_law_told", "_law_told", defArgs jj, defBody jj, defScope jj, [], []⟩) rfl
 have F_z0 : Fun K "_law_told" "_law_told" jj (He.fAd K (("_law_told", none) : Str × Option Str)) fd_law_told := bU F_z0
 obtain ⟨fd_law_place_word, F_zb⟩ := S.dfn 8 (d := ⟨(("_law_place_word", none) : Str × Option Str), "_law_place_word", "_law_place_word", defArgs lP, defBody lP, defScope lP, [], []⟩) rfl
 have F_zb : Fun K "_law_place_word" "_law_place_word" lP (He.fAd K (("_law_place_word", none) : Str × Option Str)) fd_law_place_word := bU F_zb
 obtain ⟨fd_law_robot_line, F_zc⟩ := S.dfn 9 (d := ⟨(("_law_robot_line", none) : Str × Option Str), "_law_robot_line", "_law_robot_line", defArgs kQ, defBody kQ, defScope kQ, [], []⟩) rfl
 have F_zc : Fun K "_law_robot_line" "_law_robot_line" kQ (He.fAd K (("_law_robot_line", none) : Str × Option Str)) fd_law_robot_line := bU F_zc
 obtain ⟨fd_law_order_line, F_zd⟩ := S.dfn 10 (d := ⟨(("_law_order_line", none) : Str × Option Str), "_law_order_line", "_law_order_line", defArgs kA, defBody kA, defScope kA, [], []⟩) rfl
 have F_zd : Fun K "_law_order_line" "_law_order_line" kA (He.fAd K (("_law_order_line", none) : Str × Option Str)) fd_law_order_line := bU F_zd
 obtain ⟨fd_law_lines, F_zu⟩ := S.dfn 11 (d := ⟨(("_law_lines", none) : Str × Option Str), "_law_lines", "_law_lines", defArgs lh, defBody lh, defScope lh, [], []⟩) rfl
 have F_zu : Fun K "_law_lines" "_law_lines" lh (He.fAd K (("_law_lines", none) : Str × Option Str)) fd_law_lines := bU F_zu
 obtain ⟨fd_write_place, F_zi⟩ := S.dfn 12 (d := ⟨(("write_place", none) : Str × Option Str), "write_place", "write_place", defArgs lu, defBody lu, defScope lu, [], []⟩) rfl
 have F_zi : Fun K "write_place" "write_place" lu (He.fAd K (("write_place", none) : Str × Option Str)) fd_write_place := bU F_zi
 obtain ⟨fd_write_robot, F_zg⟩ := S.dfn 13 (d := ⟨(("write_robot", none) : Str × Option Str), "write_robot", "write_robot", defArgs j6, defBody j6, defScope j6, [], []⟩) rfl
 have F_zg : Fun K "write_robot" "write_robot" j6 (He.fAd K (("write_robot", none) : Str × Option Str)) fd_write_robot := bU F_zg
 obtain ⟨fd_write_order, F_zl⟩ := S.dfn 14 (d := ⟨(("write_order", none) : Str × Option Str), "write_order", "write_order", defArgs kB, defBody kB, defScope kB, [], []⟩) rfl
 have F_zl : Fun K "write_order" "write_order" kB (He.fAd K (("write_order", none) : Str × Option Str)) fd_write_order := bU F_zl
 obtain ⟨fd_write_report, F_zf⟩ := S.dfn 15 (d := ⟨(("write_report", none) : Str × Option Str), "write_report", "write_report", defArgs ji, defBody ji, defScope ji, [], []⟩) rfl
 have F_zf : Fun K "write_report" "write_report" ji (He.fAd K (("write_report", none) : Str × Option Str)) fd_write_report := bU F_zf
 obtain ⟨fd_read_number, F_zh⟩ := S.dfn 16 (d := ⟨(("read_number", none) : Str × Option Str), "read_number", "read_number", defArgs jU, defBody jU, defScope jU, [], []⟩) rfl
 have F_zh : Fun K "read_number" "read_number" jU (He.fAd K (("read_number", none) : Str × Option Str)) fd_read_number := bU F_zh
 obtain ⟨fd_read_place, F_zn⟩ := S.dfn 17 (d := ⟨(("read_place", none) : Str × Option Str), "read_place", "read_place", defArgs jP, defBody jP, defScope jP, [], []⟩) rfl
 have F_zn : Fun K "read_place" "read_place" jP (He.fAd K (("read_place", none) : Str × Option Str)) fd_read_place := bU F_zn
 obtain ⟨fd_read_share, F_zm⟩ := S.dfn 18 (d := ⟨(("read_share", none) : Str × Option Str), "read_share", "read_share", defArgs kR, defBody kR, defScope kR, [], []⟩) rfl
 have F_zm : Fun K "read_share" "read_share" kR (He.fAd K (("read_share", none) : Str × Option Str)) fd_read_share := bU F_zm
 obtain ⟨fd_read_way, F_zy⟩ := S.dfn 19 (d := ⟨(("read_way", none) : Str × Option Str), "read_way", "read_way", defArgs jQ, defBody jQ, defScope jQ, [], []⟩) rfl
 have F_zy : Fun K "read_way" "read_way" jQ (He.fAd K (("read_way", none) : Str × Option Str)) fd_read_way := bU F_zy
 obtain ⟨fd_read_errand, F_zj⟩ := S.dfn 20 (d := ⟨(("read_errand", none) : Str × Option Str), "read_errand", "read_errand", defArgs kT, defBody kT, defScope kT, [], []⟩) rfl
 have F_zj : Fun K "read_errand" "read_errand" kT (He.fAd K (("read_errand", none) : Str × Option Str)) fd_read_errand := bU F_zj
 obtain ⟨fd_read_robot, F_zq⟩ := S.dfn 21 (d := ⟨(("read_robot", none) : Str × Option Str), "read_robot", "read_robot", defArgs kH, defBody kH, defScope kH, [], []⟩) rfl
 have F_zq : Fun K "read_robot" "read_robot" kH (He.fAd K (("read_robot", none) : Str × Option Str)) fd_read_robot := bU F_zq
 obtain ⟨fd_read_order_state, F_za⟩ := S.dfn 22 (d := ⟨(("read_order_state", none) : Str × Option Str), "read_order_state", "read_order_state", defArgs kz, defBody kz, defScope kz, [], []⟩) rfl
 have F_za : Fun K "read_order_state" "read_order_state" kz (He.fAd K (("read_order_state", none) : Str × Option Str)) fd_read_order_state := bU F_za
 obtain ⟨fd_is_letter, F_zw⟩ := S.dfn 23 (d := ⟨(("is_letter", none) : Str × Option Str), "is_letter", "is_letter", defArgs kJ, defBody kJ, defScope kJ, [], []⟩) rfl
 have F_zw : Fun K "is_letter" "is_letter" kJ (He.fAd K (("is_letter", none) : Str × Option Str)) fd_is_letter := bU F_zw
 obtain ⟨fd_read_order_row, F_ze⟩ := S.dfn 24 (d := ⟨(("read_order_row", none) : Str × Option Str), "read_order_row", "read_order_row", defArgs kU, defBody kU, defScope kU, [], []⟩) rfl
 have F_ze : Fun K "read_order_row" "read_order_row" kU (He.fAd K (("read_order_row", none) : Str × Option Str)) fd_read_order_row := bU F_ze
 obtain ⟨fd_read_report, F_zk⟩ := S.dfn 25 (d := ⟨(("read_report", none) : Str × Option Str), "read_report", "read_report", defArgs lH, defBody lH, defScope lH, [], []⟩) rfl
 have F_zk : Fun K "read_report" "read_report" lH (He.fAd K (("read_report", none) : Str × Option Str)) fd_read_report := bU F_zk
 obtain ⟨fd_law_fault, F_zs⟩ := S.dfn 26 (d := ⟨(("_law_fault", none) : Str × Option Str), "_law_fault", "_law_fault", defArgs lz, defBody lz, defScope lz, [], []⟩) rfl
 have F_zs : Fun K "_law_fault" "_law_fault" lz (He.fAd K (("_law_fault", none) : Str × Option Str)) fd_law_fault := bU F_zs
 obtain ⟨fd_law_spoilt, F_zp⟩ := S.dfn 27 (d := ⟨(("_law_spoilt", none) : Str × Option Str), "_law_spoilt", "_law_spoilt", defArgs kX, defBody kX, defScope kX, [], []⟩) rfl
 have F_zp : Fun K "_law_spoilt" "_law_spoilt" kX (He.fAd K (("_law_spoilt", none) : Str × Option Str)) fd_law_spoilt := bU F_zp
 obtain ⟨fd_law, F_z2⟩ := S.dfn 28 (d := ⟨(("law", none) : Str × Option Str), "law", "law", defArgs gr, defBody gr, defScope gr, [], []⟩) rfl
 have F_z2 : Fun K "law" "law" gr (He.fAd K (("law", none) : Str × Option Str)) fd_law := bU F_z2
 have e := hfa.symm.trans (He.glo_ok X G (S.fact 0 (f := .glo "law") rfl))
 cases e
 obtain ⟨⟨oc_law, od_law, kv_law, dc_law, pm_law, an_law, cd_z2, ct_law, sl_law, rfl, lk_law, hc_law⟩, kp_law⟩ := F_z2
 have F_z2 : Fun K "law" "law" gr (He.fAd K (("law", none) : Str × Option Str)) (PySem.W.fnOf "law" "law" (defArgs gr) (defBody gr) (defScope gr) .none kv_law dc_law pm_law an_law cd_z2 ct_law) := ⟨⟨oc_law, od_law, kv_law, dc_law, pm_law, an_law, cd_z2, ct_law, sl_law, rfl, lk_law, hc_law⟩, kp_law⟩
 refine ⟨PySem.W.fnOf "law" "law" (defArgs gr) (defBody gr) (defScope gr) .none kv_law dc_law pm_law an_law cd_z2 ct_law, fun s v => .of_eq rfl, fun base _ _ hTBs => ?_⟩
 let c : Pc := ⟨l.prog, w, K, mg, base, fun s => if s = "LineError" then some (He.ga K "LineError") else (fun s => if s = kD "read_number" then some (He.cT K (("read_number", none) : Str × Option Str)).2 else (fun _ => none) s) s⟩
 have hCLineError : c.cl "LineError" = some (He.ga K "LineError") := by simp [c]
 have hmLineError : c.mg "LineError" = some (.ref (He.ga K "LineError")) := (He.glo_ok X G (S.fact 1 (f := .glo "LineError") rfl))
 have hx_ClearfloorError : ∀ (s : String) (C : Addr) (b : Bool), c.cl s = some C → d9 s = some b → PySem.W.exmOne c.K (.ref C) (.ref (He.ga K "ClearfloorError")) = some b := by
  intro s C b h1 h2
  unfold d9 at h2
  split at h2
  ·rename_i e; subst e; cases h2; rw [hCLineError] at h1; cases h1; exact He.exm_ok (S.fact 2 (f := .exm "LineError" "ClearfloorError" true) rfl)
  cases h2
 have hi_LineError : ∀ (s : String) (D : Addr) (b : Bool), c.cl s = some D → fD s = some b → ExcC c.K D ∧ PySem.W.kitOne c.K (.ref D) (.ref (He.ga K "LineError")) = some b := by
  intro s C b h1 h2
  unfold fD at h2
  split at h2
  ·rename_i e; subst e; cases h2; rw [hCLineError] at h1; cases h1; exact ⟨vc m4, of_decide_eq_true m5⟩
  cases h2
 have T : Txt c := {
  b_any := (He.free_ok X G (S.fact 3 (f := .free "any") rfl)),
  b_bool := (He.free_ok X G (S.fact 4 (f := .free "bool") rfl)),
  b_enumerate := (He.free_ok X G (S.fact 5 (f := .free "enumerate") rfl)),
  b_int := (He.free_ok X G (S.fact 6 (f := .free "int") rfl)),
  b_isinstance := (He.free_ok X G (S.fact 7 (f := .free "isinstance") rfl)),
  b_len := (He.free_ok X G (S.fact 8 (f := .free "len") rfl)),
  b_range := (He.free_ok X G (S.fact 9 (f := .free "range") rfl)),
  b_str := (He.free_ok X G (S.fact 10 (f := .free "str") rfl)),
  c_FIGURES := He.str_ok X G (S.fact 11 (f := .str "FIGURES" "0123456789") rfl),
  c_MOST_FIGURES := He.int_ok X G (S.fact 12 (f := .int "MOST_FIGURES" 6) rfl),
  c_STATIONS := He.str_ok X G (S.fact 13 (f := .str "STATIONS" "ABCDEFGH") rfl),
  xc_ClearfloorError := ⟨_, (He.glo_ok X G (S.fact 14 (f := .glo "ClearfloorError") rfl)), hx_ClearfloorError⟩,
  xf_LineError := ⟨_, hCLineError, xfB_ok m3, He.noat_ok (S.fact 15 (f := .noat "LineError" "line") rfl)⟩,
  xt_LineError := ⟨_, (He.glo_ok X G (S.fact 1 (f := .glo "LineError") rfl)), hi_LineError⟩ }
 have hP_read_number : a9 c.cl (He.cT K (("read_number", none) : Str × Option Str)).2 := ⟨"read_number", by simp (config := { decide := true }) [c, kD]⟩
 have hTB_read_number : GxR.TabB c.base c.mg (He.cT K (("read_number", none) : Str × Option Str)).1 (He.cT K (("read_number", none) : Str × Option Str)).2 := hTBs (He.cT K (("read_number", none) : Str × Option Str)) (by simp)
 have hco_read_number : fd_read_number.code = .ref (He.cT K (("read_number", none) : Str × Option Str)).1 := uV F_zh
 obtain ⟨cda_LineError, cc_LineError, fdE_LineError, FS_LineError, TO_LineError, eiC_LineError, eti_LineError⟩ := yb (S.err 0 (d := ⟨("LineError", some "__init__"), "LineError.__init__", kg, []⟩) rfl) m1 (He.eqO_ok m2) (by rfl)
 rw [← hl] at FS_LineError
 have hfs_LineError : ∀ p ∈ ([("line", 1)] : List (Str × Nat)), PySem.W.findIn c.K (.ref (He.ga K "LineError")) p.1 = some none := by
  intro p hp
  simp only [List.mem_cons, List.not_mem_nil, or_false] at hp
  subst hp
  ·exact He.noat_ok (S.fact 15 (f := .noat "LineError" "line") rfl)
 have E_LineError_1 := oU (c := c) FS_LineError rfl (fun I => .nil) hCLineError hmLineError TO_LineError eiC_LineError eti_LineError (He.free_ok X G (S.fact 16 (f := .free "super") rfl)) hfs_LineError
 have G_z1 := Co (c := c) T F_z1 (He.glo_ok X G (S.fact 17 (f := .glo "_law_cell") rfl))
 have G_zo := Ct (c := c) T F_zo (He.glo_ok X G (S.fact 18 (f := .glo "_law_digits") rfl)) G_z1
 have G_zz := Cg (c := c) T F_zz (He.glo_ok X G (S.fact 19 (f := .glo "_law_draw") rfl))
 have G_zt := C3 (c := c) T F_zt (He.glo_ok X G (S.fact 20 (f := .glo "_law_place") rfl)) G_zz
 have G_zr := Dz (c := c) T F_zr (He.glo_ok X G (S.fact 21 (f := .glo "_law_number") rfl)) G_zz
 have G_zx := C1 (c := c) T F_zx (He.glo_ok X G (S.fact 22 (f := .glo "_law_robot") rfl)) G_zz G_zt G_zr
 have G_zv := Dt (c := c) T F_zv (He.glo_ok X G (S.fact 23 (f := .glo "_law_order") rfl)) G_zz G_zr
 have G_z0 := Ci (c := c) T F_z0 (He.glo_ok X G (S.fact 24 (f := .glo "_law_told") rfl)) G_zz G_zx G_zv
 have G_zb := DF (c := c) T F_zb (He.glo_ok X G (S.fact 25 (f := .glo "_law_place_word") rfl))
 have G_zc := Cv (c := c) T F_zc (He.glo_ok X G (S.fact 26 (f := .glo "_law_robot_line") rfl)) G_zb
 have G_zd := B9 (c := c) T F_zd (He.glo_ok X G (S.fact 27 (f := .glo "_law_order_line") rfl))
 have G_zu := Do (c := c) T F_zu (He.glo_ok X G (S.fact 28 (f := .glo "_law_lines") rfl)) G_zc G_zd
 have G_zi := CN (c := c) T F_zi (He.glo_ok X G (S.fact 29 (f := .glo "write_place") rfl))
 have G_zg := CT (c := c) T F_zg (He.glo_ok X G (S.fact 30 (f := .glo "write_robot") rfl)) G_zi
 have G_zl := Ds (c := c) T F_zl (He.glo_ok X G (S.fact 31 (f := .glo "write_order") rfl))
 have G_zf := CM (c := c) T F_zf (He.glo_ok X G (S.fact 32 (f := .glo "write_report") rfl)) G_zg G_zl
 have G_zh := CU (c := c) T hP_read_number hco_read_number hTB_read_number F_zh (He.glo_ok X G (S.fact 33 (f := .glo "read_number") rfl))
 have G_zn := Dj (c := c) T F_zn (He.glo_ok X G (S.fact 34 (f := .glo "read_place") rfl)) G_zh
 have G_zm := Cm (c := c) T F_zm (He.glo_ok X G (S.fact 35 (f := .glo "read_share") rfl)) G_zh
 have G_zy := DC (c := c) T F_zy (He.glo_ok X G (S.fact 36 (f := .glo "read_way") rfl)) G_zn
 have G_zj := Di (c := c) T F_zj (He.glo_ok X G (S.fact 37 (f := .glo "read_errand") rfl)) G_zm G_zy
 have G_zq := CC (c := c) T F_zq (He.glo_ok X G (S.fact 38 (f := .glo "read_robot") rfl)) G_zh G_zn G_zj
 have G_za := C8 (c := c) T F_za (He.glo_ok X G (S.fact 39 (f := .glo "read_order_state") rfl)) G_zm
 have G_zw := B0 (c := c) T F_zw (He.glo_ok X G (S.fact 40 (f := .glo "is_letter") rfl))
 have G_ze := CI (c := c) T F_ze (He.glo_ok X G (S.fact 41 (f := .glo "read_order_row") rfl)) G_zh G_za G_zw
 have G_zk := CD (c := c) T F_zk (He.glo_ok X G (S.fact 42 (f := .glo "read_report") rfl)) G_zq G_ze E_LineError_1
 have G_zs := BZ (c := c) T F_zs (He.glo_ok X G (S.fact 43 (f := .glo "_law_fault") rfl)) G_zk
 have G_zp := BY (c := c) T F_zp (He.glo_ok X G (S.fact 44 (f := .glo "_law_spoilt") rfl)) G_zz
 have L := yA (P := l.prog) (w := w) (K := K) (mg := mg) (base := base) (cl := c.cl) (k := 9) F_z2 Au (Cy (c := c) T G_zo G_z0 G_zu G_zf G_zs G_zz G_zp)
 refine L.imp fun vs H Q E hs => ?_
 obtain ⟨a, ns, rfl, hTabs, ⟨J, hJ, hJt, hS⟩, hl2, hQ⟩ := hs
 obtain ⟨M9, env, he⟩ := law_true ns hl2
 have isT : ∀ b, a9 c.cl b → ∃ p ∈ ([He.cT K (("read_number", none) : Str × Option Str)] : List (Addr × Addr)), b = p.2 := fun b hb => by
  obtain ⟨x, hx⟩ := hb
  simp (maxSteps := 4000000) only [c] at hx
  rcases ph hx with ⟨e, _⟩ | hx
  ·exact (tU _ _ (by decide) e).elim
  rcases ph hx with ⟨_, e⟩ | hx
  ·exact ⟨He.cT K (("read_number", none) : Str × Option Str), by simp, e.symm⟩
  cases hx
 exact s9 (fun b hb => by obtain ⟨p, hp, rfl⟩ := isT b hb; exact hTabs p hp) ⟨J, hJ, (fun b hb => by obtain ⟨p, hp, rfl⟩ := isT b hb; exact hJt p hp), hS⟩ he hQ
end
end Law
open PySem PySem.W PyProof.Rows
set_option maxRecDepth 100000 in
set_option maxHeartbeats 0 in
theorem PySem.Challenge.cw_clearfloor_k25_lines_of_a_report_holds : PySem.Challenge.rw_clearfloor_k25_lines_of_a_report.Holds := by
 w_on; o_law
 refine HandSHeadRun.head_any (r := Law.hR) (q := Law.hQ) (H := Q.nM Law.hAs Law.hFa Law.hFn Law.hTs Law.hTf Law.hEs Law.hEx) (ob := fun s => Q.mw Law.hAs Law.hFa Law.hFn Law.hTs Law.hTf Law.hEs Law.hEx (HandSHeadRun.getT s)) (M := 20000) (loose := Law.hNm) (kwd := []) (fun s => Q.xh s) (by kernel_rfl) (fun s => by kernel_rfl) Law.De (by rfl) (by rfl) (by rfl) (by rfl) (by first | assumption | decide +kernel) (by decide +kernel) ⟨rfl, rfl, rfl, rfl, rfl, by decide +kernel⟩ ?hw ?hc
 case hw => w_witness2
 case hc =>
  refine Q.x9 (l := PySem.Challenge.rw_clearfloor_k25_lines_of_a_report) (n := 63) (k := 10) (x := "script") (CX := L2.CX0) rfl (by decide) rfl ⟨rfl, by decide, by decide⟩ (fun w mg fa h Y G hmg => ?_) fun _ _ _ _ z => z
  obtain ⟨K, X, S⟩ := Y
  obtain ⟨fd, h1, h2⟩ := Law.zL (l := PySem.Challenge.rw_clearfloor_k25_lines_of_a_report) rfl X G hmg S
  refine ⟨K, fd, _, X, h1, fun p hp => ?_, h2⟩
  have hp2 : ∃ t ∈ Law.hTf, p = He.cT K t := by
   simpa [Law.hTf, eq_comm] using hp
  obtain ⟨t, ht, rfl⟩ := hp2
  exact ⟨PySem.W.codeHd_of_K X (S.x.hd t ht), S.x.empty t ht, S.x.out t ht⟩
