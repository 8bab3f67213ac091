import PyProof.Rows.All
import Wide.All
import OpenK.AllK
import Wide.FinOn
import Open.SpecLaws
import KE.OsGo
import HandS.ForMost
import HandS.Spec
import HandS.TupLen
import HandS.DictTup
import HandS.More
import HandS.Zip
import HandS.SetFor
import HandS.Walk
import PySem.Challenge.RW_tongueoffice_s01_answers
import HandS.DictSubView
import PyFlatLaws
set_option Elab.async false
set_option maxRecDepth 100000
set_option maxHeartbeats 4000000
set_option linter.unusedVariables false
set_option autoImplicit false
/-! # The office: how it lies in the heap -/
namespace Tof
open PySem PySem.Spec PyProof.Rows L2

/-! ### roles of addresses -/
/-- what an address is for: not the office's; the office's and never changed; its five tables; a package's bases -/
inductive Rl where
  | oth | own | src | wrk | uns | lp | lr
  | bs (i : Nat)
  deriving DecidableEq
structure Lay where
  a : Addr
  dx : Addr
  dS : Addr
  dW : Addr
  lP : Addr
  dU : Addr
  lR : Addr
abbrev nK (n : Nat) : L2.Key := Sum.inl (n : Int)
abbrev nV (n : Nat) : V := V.int (n : Int)
def pl (t k x : Nat) : List L2.Key := [nK t, nK k, nK x]
def eKV (e : Ut14.Entry) : L2.Key × V := (nK e.1, nV e.2)
def wKV (w : Ut14.Work) : List L2.Key × V := (pl w.tongue w.key w.text, nV w.trans)
def oKV (o : Ut14.Open) : List L2.Key × V := (pl o.tongue o.key o.text, nV o.theirs)
def tKV (m : Ut14.Item) : L2.Key × V := (nK m.key, nV m.text)
def bKV (m : Ut14.Item) : L2.Key × V := (nK m.key, nV m.base)
def rF (L : Lay) : List (Str × V) := [("source", .ref L.dS), ("work", .ref L.dW), ("packages", .ref L.lP), ("unsettled", .ref L.dU), ("releases", .ref L.lR)]
def pF (t : Nat) (dt db : Addr) : List (Str × V) := [("tongue", nV t), ("texts", .ref dt), ("bases", .ref db)]

/-- a package as it lies -/
def PkAt (CP : Addr) (ro : Addr → Rl) (H : Hp) (i : Nat) (pa : Addr) (p : Ut14.Package) : Prop :=
  ∃ dx dt db, H pa = some (.ins CP dx (pF p.tongue dt db)) ∧ ro pa = .own ∧ H dt = some (.dK (p.items.map tKV)) ∧ ro dt = .own ∧ H db = some (.dK (p.items.map bKV)) ∧ ro db = .bs i
/-- one line of a release -/
def LnAt (H : Hp) (l : Nat × Nat × Bool) (e : L2.Key × V) : Prop := ∃ t, e = (nK l.1, .ref t) ∧ H t = some (.tup [nV l.2.1, nV (Ut14.bit l.2.2)])
def RlAt (ro : Addr → Rl) (H : Hp) (rd : Addr) (ls : List (Nat × Nat × Bool)) : Prop :=
  ∃ es, H rd = some (.dK es) ∧ ro rd = .own ∧ Paired (LnAt H) ls es
structure At (C CP : Addr) (L : Lay) (ro : Addr → Rl) (H : Hp) (g : Ut14.House) : Prop where
  fresh : ∀ b, H b = none → ro b = .oth
  hA : H L.a = some (.ins C L.dx (rF L))
  rA : ro L.a = .own
  hS : ∃ src : List Ut14.Entry, H L.dS = some (.dK (src.map eKV)) ∧ src.Perm g.source
  rS : ro L.dS = .src
  hW : H L.dW = some (.dT (g.work.map wKV))
  rW : ro L.dW = .wrk
  hP : ∃ pas : List Addr, H L.lP = some (.lst (pas.map V.ref)) ∧ pas.length = g.packages.length ∧ ∀ (i : Nat) (p : Ut14.Package), g.packages[i]? = some p → ∃ pa, pas[i]? = some pa ∧ PkAt CP ro H i pa p
  rP : ro L.lP = .lp
  hU : H L.dU = some (.dT (g.open_.map oKV))
  rU : ro L.dU = .uns
  hR : ∃ rds : List Addr, H L.lR = some (.lst (rds.map V.ref)) ∧ rds.length = g.released.length ∧ ∀ (i : Nat) (r : Nat × Nat × List (Nat × Nat × Bool)), g.released[i]? = some r → ∃ rd, rds[i]? = some rd ∧ RlAt ro H rd r.2.2
  rR : ro L.lR = .lr

/-! ### what stands -/
/-- all of a role but r stands, and the tuples -/
structure Kp (ro : Addr → Rl) (r : Rl) (H H' : Hp) : Prop where
  all : ∀ b o, H b = some o → ro b ≠ r → H' b = some o
  tup : ∀ b xs, H b = some (.tup xs) → H' b = some (.tup xs)
  fresh : ∀ b, H' b = none → H b = none
theorem Kp.same {ro : Addr → Rl} {r : Rl} {H H' : Hp} (s : Same H H') : Kp ro r H H' := ⟨fun b o e _ => s b o e, fun b xs e => s b _ e, fun _ e => s.free e⟩
def NoTup : HO → Prop
  | .tup _ => False
  | _ => True
theorem upd_free {H : Hp} {p b : Addr} {o : HO} (h : upd H p o b = none) : H b = none := by
  unfold upd at h
  split at h
  · cases h
  · exact h
theorem upd_new {H : Hp} {p : Addr} {o : HO} (hp : H p = none) : Same H (upd H p o) := fun b u e => by
  rw [upd_ne (ne_of_none e hp)]
  exact e
theorem upd_id {H : Hp} {p : Addr} {o : HO} (hp : H p = some o) : upd H p o = H := by
  funext b
  unfold upd
  split
  · rename_i e
    rw [e, hp]
  · rfl
theorem Kp.upd {ro : Addr → Rl} {r : Rl} {H : Hp} {p : Addr} {u o : HO} (hp : H p = some u) (nt : NoTup u) (hr : ro p = r) : Kp ro r H (upd H p o) :=
  ⟨fun b v e n => by
    rw [upd_ne (fun z => n (by rw [z]; exact hr))]
    exact e, fun b xs e => by
    rw [upd_ne (fun z => by rw [z, hp] at e; cases e; exact nt)]
    exact e, fun b e => upd_free e⟩
theorem LnAt.keep {H H' : Hp} (k : ∀ b xs, H b = some (.tup xs) → H' b = some (.tup xs)) {l : Nat × Nat × Bool} {e : L2.Key × V} (h : LnAt H l e) : LnAt H' l e := by
  obtain ⟨t, e1, e2⟩ := h
  exact ⟨t, e1, k _ _ e2⟩
theorem RlAt.keep {ro : Addr → Rl} {r : Rl} {H H' : Hp} (k : Kp ro r H H') (hr : r ≠ .own) {rd : Addr} {ls : List (Nat × Nat × Bool)} (h : RlAt ro H rd ls) : RlAt ro H' rd ls := by
  obtain ⟨es, e1, e2, e3⟩ := h
  exact ⟨es, k.all _ _ e1 (by rw [e2]; exact fun z => hr z.symm), e2, Paired.mapP e3 fun _ _ z => z.keep k.tup⟩
theorem PkAt.keep {CP : Addr} {ro : Addr → Rl} {r : Rl} {H H' : Hp} (k : Kp ro r H H') (hr : r ≠ .own) {i : Nat} (hi : r ≠ .bs i) {pa : Addr} {p : Ut14.Package} (h : PkAt CP ro H i pa p) : PkAt CP ro H' i pa p := by
  obtain ⟨dx, dt, db, e1, e2, e3, e4, e5, e6⟩ := h
  exact ⟨dx, dt, db, k.all _ _ e1 (by rw [e2]; exact fun z => hr z.symm), e2, k.all _ _ e3 (by rw [e4]; exact fun z => hr z.symm), e4, k.all _ _ e5 (by rw [e6]; exact fun z => hi z.symm), e6⟩
section
variable {C CP : Addr} {L : Lay} {ro : Addr → Rl} {H H' : Hp} {g : Ut14.House}
theorem At.packs {r : Rl} (h : At C CP L ro H g) (k : Kp ro r H H') (hr : r ≠ .own) (hb : ∀ i, r ≠ .bs i) (hp : r ≠ .lp) :
    ∃ pas : List Addr, H' L.lP = some (.lst (pas.map V.ref)) ∧ pas.length = g.packages.length ∧ ∀ (i : Nat) (p : Ut14.Package), g.packages[i]? = some p → ∃ pa, pas[i]? = some pa ∧ PkAt CP ro H' i pa p := by
  obtain ⟨pas, e1, e2, e3⟩ := h.hP
  refine ⟨pas, k.all _ _ e1 (by rw [h.rP]; exact fun z => hp z.symm), e2, fun i p q => ?_⟩
  obtain ⟨pa, q1, q2⟩ := e3 i p q
  exact ⟨pa, q1, q2.keep k hr (hb i)⟩
theorem At.rels {r : Rl} (h : At C CP L ro H g) (k : Kp ro r H H') (hr : r ≠ .own) (hl : r ≠ .lr) :
    ∃ rds : List Addr, H' L.lR = some (.lst (rds.map V.ref)) ∧ rds.length = g.released.length ∧ ∀ (i : Nat) (r : Nat × Nat × List (Nat × Nat × Bool)), g.released[i]? = some r → ∃ rd, rds[i]? = some rd ∧ RlAt ro H' rd r.2.2 := by
  obtain ⟨rds, e1, e2, e3⟩ := h.hR
  refine ⟨rds, k.all _ _ e1 (by rw [h.rR]; exact fun z => hl z.symm), e2, fun i p q => ?_⟩
  obtain ⟨rd, q1, q2⟩ := e3 i p q
  exact ⟨rd, q1, q2.keep k hr⟩
/-- nothing of the office's is changed -/
theorem At.keep (h : At C CP L ro H g) (k : Kp ro .oth H H') : At C CP L ro H' g where
  fresh := fun b e => h.fresh b (k.fresh b e)
  hA := k.all _ _ h.hA (by rw [h.rA]; exact nofun)
  rA := h.rA
  hS := let ⟨s, e1, e2⟩ := h.hS; ⟨s, k.all _ _ e1 (by rw [h.rS]; exact nofun), e2⟩
  rS := h.rS
  hW := k.all _ _ h.hW (by rw [h.rW]; exact nofun)
  rW := h.rW
  hP := h.packs k nofun nofun nofun
  rP := h.rP
  hU := k.all _ _ h.hU (by rw [h.rU]; exact nofun)
  rU := h.rU
  hR := h.rels k nofun nofun
  rR := h.rR
theorem At.same (h : At C CP L ro H g) (s : Same H H') : At C CP L ro H' g := h.keep (Kp.same s)
theorem At.new (h : At C CP L ro H g) {p : Addr} {o : HO} (hp : H p = none) : At C CP L ro (upd H p o) g := h.same (upd_new hp)
theorem At.other (h : At C CP L ro H g) {p : Addr} {u o : HO} (hp : H p = some u) (nt : NoTup u) (hr : ro p = .oth) : At C CP L ro (upd H p o) g := h.keep (Kp.upd hp nt hr)
/-- the source is another -/
theorem At.setSrc (h : At C CP L ro H g) {src : List Ut14.Entry} {s : List Ut14.Entry} (hp : src.Perm s) : At C CP L ro (upd H L.dS (.dK (src.map eKV))) { g with source := s } := by
  obtain ⟨s0, e0, _⟩ := h.hS
  have k : Kp ro .src H (upd H L.dS (.dK (src.map eKV))) := Kp.upd e0 trivial h.rS
  exact {
    fresh := fun b e => h.fresh b (k.fresh b e)
    hA := k.all _ _ h.hA (by rw [h.rA]; exact nofun)
    rA := h.rA
    hS := ⟨src, upd_same, hp⟩
    rS := h.rS
    hW := k.all _ _ h.hW (by rw [h.rW]; exact nofun)
    rW := h.rW
    hP := h.packs k nofun nofun nofun
    rP := h.rP
    hU := k.all _ _ h.hU (by rw [h.rU]; exact nofun)
    rU := h.rU
    hR := h.rels k nofun nofun
    rR := h.rR }
theorem At.setWork (h : At C CP L ro H g) (w : List Ut14.Work) : At C CP L ro (upd H L.dW (.dT (w.map wKV))) { g with work := w } := by
  have k : Kp ro .wrk H (upd H L.dW (.dT (w.map wKV))) := Kp.upd h.hW trivial h.rW
  exact {
    fresh := fun b e => h.fresh b (k.fresh b e)
    hA := k.all _ _ h.hA (by rw [h.rA]; exact nofun)
    rA := h.rA
    hS := let ⟨s, e1, e2⟩ := h.hS; ⟨s, k.all _ _ e1 (by rw [h.rS]; exact nofun), e2⟩
    rS := h.rS
    hW := upd_same
    rW := h.rW
    hP := h.packs k nofun nofun nofun
    rP := h.rP
    hU := k.all _ _ h.hU (by rw [h.rU]; exact nofun)
    rU := h.rU
    hR := h.rels k nofun nofun
    rR := h.rR }
theorem At.setOpen (h : At C CP L ro H g) (w : List Ut14.Open) : At C CP L ro (upd H L.dU (.dT (w.map oKV))) { g with open_ := w } := by
  have k : Kp ro .uns H (upd H L.dU (.dT (w.map oKV))) := Kp.upd h.hU trivial h.rU
  exact {
    fresh := fun b e => h.fresh b (k.fresh b e)
    hA := k.all _ _ h.hA (by rw [h.rA]; exact nofun)
    rA := h.rA
    hS := let ⟨s, e1, e2⟩ := h.hS; ⟨s, k.all _ _ e1 (by rw [h.rS]; exact nofun), e2⟩
    rS := h.rS
    hW := k.all _ _ h.hW (by rw [h.rW]; exact nofun)
    rW := h.rW
    hP := h.packs k nofun nofun nofun
    rP := h.rP
    hU := upd_same
    rU := h.rU
    hR := h.rels k nofun nofun
    rR := h.rR }
/-! ### what a call leaves to its caller -/
/-- what isn't the office's stands, and isn't the office's then -/
def Fr (ro : Addr → Rl) (H : Hp) (ro' : Addr → Rl) (H' : Hp) : Prop := ∀ b o, H b = some o → ro b = .oth → H' b = some o ∧ ro' b = .oth
theorem Fr.same {ro : Addr → Rl} {H H' : Hp} (s : Same H H') : Fr ro H ro H' := fun b o e r => ⟨s b o e, r⟩
theorem Fr.trans {r0 r1 r2 : Addr → Rl} {H0 H1 H2 : Hp} (a : Fr r0 H0 r1 H1) (b : Fr r1 H1 r2 H2) : Fr r0 H0 r2 H2 := fun c o e r => b c o (a c o e r).1 (a c o e r).2
theorem Fr.upd {ro : Addr → Rl} {H : Hp} {d : Addr} {o : HO} (hd : ro d ≠ .oth) : Fr ro H ro (upd H d o) := fun b u e r => ⟨by rw [upd_ne (fun z => hd (by rw [← z]; exact r))]; exact e, r⟩
/-- what a call of the office promises: the step's answer in a new list, the office behind the step -/
def Ans (C CP : Addr) (L : Lay) (ro : Addr → Rl) (H : Hp) (g : Ut14.House) (c : Ut14.Call) (Q : VK) : Prop :=
  ∀ (ro' : Addr → Rl) (H' : Hp) (p : Addr), H p = none → H' p = some (.lst ((Ut14.step g c).2.map V.int)) → ro' p = .oth → At C CP L ro' H' (Ut14.step g c).1 → Fr ro H ro' H' → Q (.ref p) H'
end
end Tof

namespace Tof
open PySem PySem.Spec PyProof.Rows L2
/-! ### the text by places -/
def top (i : Nat) : Stmt := PySem.Challenge.pw_tongueoffice_s01_answers.main.body.getD i (.Pass ⟨0, 0, 0, 0⟩)
abbrev cPk : Stmt := top 19
abbrev cRc : Stmt := top 20
abbrev sInitP : Stmt := inClass cPk 0
abbrev sInitR : Stmt := inClass cRc 0
abbrev sStands : Stmt := inClass cRc 1
abbrev sWorkAt : Stmt := inClass cRc 2
abbrev sPutWork : Stmt := inClass cRc 3
abbrev sGrowth : Stmt := inClass cRc 4
abbrev sTooMuch : Stmt := inClass cRc 5
abbrev sSetText : Stmt := inClass cRc 6
abbrev sDropKey : Stmt := inClass cRc 7
abbrev sSetTr : Stmt := inClass cRc 8
/-! ### an attribute among the attributes -/
theorem lk_here {k : Str} {v : V} {r : List (Str × V)} : List.lookup k ((k, v) :: r) = some v := by
  have e : (k == k) = true := beq_self_eq_true k
  simp only [List.lookup, e]
theorem lk_past {k g : Str} {v : V} {r : List (Str × V)} (h : (k == g) = false) : List.lookup k ((g, v) :: r) = List.lookup k r := by
  simp only [List.lookup, h]
section
variable {L : Lay}
theorem rF_source : (rF L).lookup ("source" : Str) = some (.ref L.dS) := lk_here
theorem rF_work : (rF L).lookup ("work" : Str) = some (.ref L.dW) := (lk_past (by decide +kernel)).trans lk_here
theorem rF_packages : (rF L).lookup ("packages" : Str) = some (.ref L.lP) := (lk_past (by decide +kernel)).trans ((lk_past (by decide +kernel)).trans lk_here)
theorem rF_unsettled : (rF L).lookup ("unsettled" : Str) = some (.ref L.dU) := (lk_past (by decide +kernel)).trans ((lk_past (by decide +kernel)).trans ((lk_past (by decide +kernel)).trans lk_here))
theorem rF_releases : (rF L).lookup ("releases" : Str) = some (.ref L.lR) := (lk_past (by decide +kernel)).trans ((lk_past (by decide +kernel)).trans ((lk_past (by decide +kernel)).trans ((lk_past (by decide +kernel)).trans lk_here)))
theorem rF_none {m : Str} (h : (m == "source") = false ∧ (m == "work") = false ∧ (m == "packages") = false ∧ (m == "unsettled") = false ∧ (m == "releases") = false) : (rF L).lookup m = none :=
  (lk_past h.1).trans ((lk_past h.2.1).trans ((lk_past h.2.2.1).trans ((lk_past h.2.2.2.1).trans ((lk_past h.2.2.2.2).trans rfl))))
end
/-! ### what the top has written -/
structure Txt (K : PySem.W.Frag) (mg : Str → Option Value) (C CP : Addr) : Prop where
  cl : Cls K C
  clP : Cls K CP
  nS : NoAttr K C "source"
  nW : NoAttr K C "work"
  nP : NoAttr K C "packages"
  nU : NoAttr K C "unsettled"
  nR : NoAttr K C "releases"
  nTg : NoAttr K CP "tongue"
  nTx : NoAttr K CP "texts"
  nBs : NoAttr K CP "bases"
  len : mg "len" = none
  set : mg "set" = none
  sorted : mg "sorted" = none
  any : mg "any" = none
  sum : mg "sum" = none
  range : mg "range" = none
  list : mg "list" = none
  min : mg "min" = none
  gRc : mg "Records" = some (.ref C)
  gPk : mg "Package" = some (.ref CP)
  NOT_AS_TOLD : ∃ t, mg "NOT_AS_TOLD" = some (.int (-1) t)
  MISSING : ∃ t, mg "MISSING" = some (.int (-2) t)
  NOT_IN_PACKAGE : ∃ t, mg "NOT_IN_PACKAGE" = some (.int (-3) t)
  FULL : ∃ t, mg "FULL" = some (.int (-5) t)
  NOT_IN_RELEASE : ∃ t, mg "NOT_IN_RELEASE" = some (.int (-6) t)
  LAST_KEY : ∃ t, mg "LAST_KEY" = some (.int 99 t)
  LAST_TEXT : ∃ t, mg "LAST_TEXT" = some (.int 999 t)
  LAST_TRANSLATION : ∃ t, mg "LAST_TRANSLATION" = some (.int 999 t)
  LAST_TONGUE : ∃ t, mg "LAST_TONGUE" = some (.int 3 t)
  MOST_KEYS : ∃ t, mg "MOST_KEYS" = some (.int 10 t)
  MOST_WORK : ∃ t, mg "MOST_WORK" = some (.int 60 t)
  MOST_PACKAGES : ∃ t, mg "MOST_PACKAGES" = some (.int 10 t)
  MOST_IN_PACKAGE : ∃ t, mg "MOST_IN_PACKAGE" = some (.int 6 t)
  MOST_RELEASES : ∃ t, mg "MOST_RELEASES" = some (.int 12 t)
  ALREADY_THERE : ∃ t, mg "ALREADY_THERE" = some (.int 0 t)
  AS_SENT : ∃ t, mg "AS_SENT" = some (.int 1 t)
  TAKEN : ∃ t, mg "TAKEN" = some (.int 2 t)
  LEFT_TO_CHOOSE : ∃ t, mg "LEFT_TO_CHOOSE" = some (.int 3 t)
  TEXT : ∃ t, mg "TEXT" = some (.int 0 t)
  GONE : ∃ t, mg "GONE" = some (.int 1 t)
  TRANSLATE : ∃ t, mg "TRANSLATE" = some (.int 2 t)
  SEND : ∃ t, mg "SEND" = some (.int 3 t)
  BACK : ∃ t, mg "BACK" = some (.int 4 t)
  CHOOSE : ∃ t, mg "CHOOSE" = some (.int 5 t)
  RELEASE : ∃ t, mg "RELEASE" = some (.int 6 t)
  LOOK : ∃ t, mg "LOOK" = some (.int 7 t)
  NOW : ∃ t, mg "NOW" = some (.int 8 t)
  TODO : ∃ t, mg "TODO" = some (.int 9 t)
  OFFER : ∃ t, mg "OFFER" = some (.int 10 t)
  STILL_OPEN : ∃ t, mg "STILL_OPEN" = some (.int 11 t)
  CHANGED : ∃ t, mg "CHANGED" = some (.int 12 t)
/-- a whole number of the module's -/
theorem pe_gi {X : Cx} {x : Str} {i : Int} {pos : Pos} (h : ∃ t, X.mg x = some (.int i t)) (hg : Gl X x := by rfl) (hd : (x == ("__debug__" : Str)) = false := by decide) : PE X (.Name x pos) (tC (.int i)) := by
  obtain ⟨t, e⟩ := h
  exact pe_glob (v := .int i) hg e ⟨t, rfl⟩ hd
theorem if_true_of {c : Bool} {A B : Prop} (hc : c = true) (h : A) : if c = true then A else B := by
  rw [if_pos hc]
  exact h
theorem if_false_of {c : Bool} {A B : Prop} (hc : c = false) (h : B) : if c = true then A else B := by
  rw [hc, if_neg Bool.false_ne_true]
  exact h
section
variable {P : Program} {w : World} {K : PySem.W.Frag} {mg : Str → Option Value} {base : Heap} {C CP : Addr}
/-! ### how_it_stands -/
theorem told_eq (g : Ut14.House) (n : Nat) (h : n = g.source.length) : (Ut14.told g).map V.int = [V.int n, V.int g.work.length, V.int g.packages.length, V.int g.open_.length, V.int g.released.length] := by
  rw [h]
  rfl
def spStands (C CP : Addr) : Sp := fun vs H Q _ => ∃ (L : Lay) (ro : Addr → Rl) (g : Ut14.House), vs = [.ref L.a] ∧ At C CP L ro H g ∧
  ∀ p, H p = none → Q (.ref p) (upd H p (.lst ((Ut14.told g).map V.int)))
theorem scStands : FnScope ["self"] ["self"] (defScope sStands) := ⟨rfl, rfl, rfl, by decide +kernel, rfl, by decide +kernel, by decide +kernel⟩
theorem ok_stands {f : Addr} {fd : FuncData} (F : Fun K "how_it_stands" "Records.how_it_stands" sStands f fd) (T : Txt K mg C CP) : FnOk P w K mg base CX0 1 f fd ["self"] (spStands C CP) := by
  refine F.ok scStands (fun vs H Q E h => ?_) (fun cdv A outer s H vs Q E hr h => ⟨_, pss_one (ps_ret (pe_lst
    (pa_cons (pe_callB call_lenD (by rfl) T.len PySem.boot_len (pa_cons (pe_fld (pv 0) rfl) pa_nil))
    (pa_cons (pe_callB call_len_dT (by rfl) T.len PySem.boot_len (pa_cons (pe_fld (pv 0) rfl) pa_nil))
    (pa_cons (pe_callB call_len_seq (by rfl) T.len PySem.boot_len (pa_cons (pe_fld (pv 0) rfl) pa_nil))
    (pa_cons (pe_callB call_len_dT (by rfl) T.len PySem.boot_len (pa_cons (pe_fld (pv 0) rfl) pa_nil))
    (pa_cons (pe_callB call_len_seq (by rfl) T.len PySem.boot_len (pa_cons (pe_fld (pv 0) rfl) pa_nil)) pa_nil))))))), ?_⟩)
  · obtain ⟨L, ro, g, rfl, _⟩ := h
    rfl
  · obtain ⟨L, ro, g, rfl, hA, k⟩ := h
    obtain ⟨src, hs, hperm⟩ := hA.hS
    obtain ⟨pas, hp, hpl, _⟩ := hA.hP
    obtain ⟨rds, hq, hql, _⟩ := hA.hR
    refine ⟨_, rfl, L.a, C, L.dx, _, _, rfl, hA.hA, T.cl, T.nS, rF_source, L.dS, _, rfl, hs, ?_⟩
    refine ⟨_, rfl, L.a, C, L.dx, _, _, rfl, hA.hA, T.cl, T.nW, rF_work, L.dW, _, rfl, hA.hW, ?_⟩
    refine ⟨_, rfl, L.a, C, L.dx, _, _, rfl, hA.hA, T.cl, T.nP, rF_packages, L.lP, _, rfl, .inl (SqL.of hp), ?_⟩
    refine ⟨_, rfl, L.a, C, L.dx, _, _, rfl, hA.hA, T.cl, T.nU, rF_unsettled, L.dU, _, rfl, hA.hU, ?_⟩
    refine ⟨_, rfl, L.a, C, L.dx, _, _, rfl, hA.hA, T.cl, T.nR, rF_releases, L.lR, _, rfl, .inl (SqL.of hq), ?_⟩
    refine ⟨by show 5 ≤ sizeLine; decide, fun p hp => ?_⟩
    have e := told_eq g src.length hperm.length_eq
    have z := k p hp
    rw [e] at z
    simp only [List.length_map, hpl, hql]
    exact z
end
end Tof

namespace Tof
open PySem PySem.Spec PyProof.Rows L2
/-! ### tables of pairs that are told by a list -/
section
variable {α κ : Type} [DecidableEq κ]
theorem valV_of (f : α → κ × V) (p : α → Bool) (k : κ) (h : ∀ a, decide ((f a).1 = k) = p a) : ∀ l : List α, valV (l.map f) k = (l.find? p).map fun a => (f a).2
  | [] => rfl
  | a :: l => by
    have e := h a
    by_cases c : (f a).1 = k
    · rw [List.map_cons, valV_pos c]
      rw [decide_eq_true c] at e
      rw [List.find?_cons, ← e] <;> rfl
    · rw [List.map_cons, valV_neg c, valV_of f p k h l]
      rw [decide_eq_false c] at e
      rw [List.find?_cons, ← e] <;> rfl
theorem dropK_of (f : α → κ × V) (p : α → Bool) (k : κ) (h : ∀ a, decide ((f a).1 = k) = p a) : ∀ l : List α, dropK (l.map f) k = (l.filter fun a => !p a).map f
  | [] => rfl
  | a :: l => by
    have e := h a
    have ih := dropK_of f p k h l
    by_cases c : (f a).1 = k
    · rw [List.map_cons, dropK_pos c, ih]
      rw [decide_eq_true c] at e
      rw [List.filter_cons, ← e] <;> rfl
    · rw [List.map_cons, dropK_neg c, ih]
      rw [decide_eq_false c] at e
      rw [List.filter_cons, ← e] <;> rfl
theorem putK_of (f : α → κ × V) (p : α → Bool) (k : κ) (v : V) (u : α → α) (n : α) (h : ∀ a, decide ((f a).1 = k) = p a) (hu : ∀ a, p a = true → f (u a) = ((f a).1, v)) (hn : f n = (k, v)) (l : List α) :
    putK (l.map f) k v = (if l.any p = true then l.map (fun a => if p a = true then u a else a) else l ++ [n]).map f := by
  have e1 : ((l.map f).any fun kv => decide (kv.1 = k)) = l.any p := by
    rw [List.any_map]
    congr 1
    funext a
    exact h a
  unfold putK
  rw [e1]
  by_cases c : l.any p = true
  · rw [if_pos c, if_pos c, List.map_map, List.map_map]
    congr 1
    funext a
    show (if (f a).1 = k then ((f a).1, v) else f a) = f (if p a = true then u a else a)
    have e := h a
    by_cases d : (f a).1 = k
    · rw [decide_eq_true d] at e
      rw [if_pos d, if_pos e.symm, hu a e.symm]
    · rw [decide_eq_false d] at e
      rw [if_neg d, if_neg (by rw [← e]; exact Bool.false_ne_true)]
  · rw [if_neg c, if_neg c, List.map_append]
    show _ = l.map f ++ [f n]
    rw [hn]
end
theorem nK_eq (a b : Nat) : decide (nK a = nK b) = (a == b) := by
  by_cases c : a = b
  · subst c
    rw [decide_eq_true rfl, beq_self_eq_true]
  · rw [decide_eq_false (fun z => c (by have := Sum.inl.inj z; omega))]
    exact (beq_false_of_ne c).symm
theorem pl_eq (a b c t k x : Nat) : decide (pl a b c = pl t k x) = (a == t && (b == k && c == x)) := by
  unfold pl
  by_cases h : a = t ∧ b = k ∧ c = x
  · obtain ⟨rfl, rfl, rfl⟩ := h
    rw [decide_eq_true rfl, beq_self_eq_true, beq_self_eq_true, beq_self_eq_true] <;> rfl
  · rw [decide_eq_false (fun z => h (by
      obtain ⟨e1, z⟩ := List.cons.inj z
      obtain ⟨e2, z⟩ := List.cons.inj z
      obtain ⟨e3, z⟩ := List.cons.inj z
      have := Sum.inl.inj e1
      have := Sum.inl.inj e2
      have := Sum.inl.inj e3
      omega))]
    symm
    rw [← Bool.not_eq_true]
    intro z
    rw [Bool.and_eq_true, Bool.and_eq_true] at z
    exact h ⟨eq_of_beq z.1, eq_of_beq z.2.1, eq_of_beq z.2.2⟩
/-! ### the work -/
theorem val_work (l : List Ut14.Work) (t k x : Nat) : valV (l.map wKV) (pl t k x) = (Ut14.workOf l t k x).map nV := by
  rw [valV_of wKV (fun w => w.tongue == t && (w.key == k && w.text == x)) (pl t k x) (fun w => pl_eq ..)]
  unfold Ut14.workOf
  rw [Option.map_map]
  rfl
theorem drop_work (l : List Ut14.Work) (t k x : Nat) : dropK (l.map wKV) (pl t k x) = (l.filter fun y => !(y.tongue == t && (y.key == k && y.text == x))).map wKV :=
  dropK_of wKV (fun w => w.tongue == t && (w.key == k && w.text == x)) (pl t k x) (fun w => pl_eq ..) l
theorem val_drop {κ : Type} [DecidableEq κ] (l : List (κ × V)) (k : κ) : valV (dropK l k) k = none := by
  unfold valV
  have e : (dropK l k).find? (fun kv => decide (kv.1 = k)) = none := List.find?_eq_none.mpr fun p hp => by
    have q := (List.mem_filter.mp hp).2
    intro z
    exact of_decide_eq_true q (of_decide_eq_true z)
  rw [e]
  rfl
theorem drop_same {κ : Type} [DecidableEq κ] {l : List (κ × V)} {k : κ} (h : valV l k = none) : dropK l k = l := dropK_no (valV_not h)
theorem put_work (l : List Ut14.Work) (t k x n : Nat) (hn : n ≠ 0) : putK (dropK (l.map wKV) (pl t k x)) (pl t k x) (nV n) = (Ut14.put l ⟨t, k, x, n⟩).map wKV := by
  rw [putK_new _ (val_drop _ _), drop_work]
  unfold Ut14.put
  rw [if_neg hn, List.map_append]
  rfl
theorem put_zero (l : List Ut14.Work) (t k x : Nat) : dropK (l.map wKV) (pl t k x) = (Ut14.put l ⟨t, k, x, 0⟩).map wKV := by
  rw [drop_work]
  unfold Ut14.put
  rw [if_pos rfl, List.append_nil]
/-! ### what is open -/
theorem val_open (l : List Ut14.Open) (t k x : Nat) : valV (l.map oKV) (pl t k x) = (l.find? fun o => o.tongue == t && (o.key == k && o.text == x)).map fun o => nV o.theirs :=
  valV_of oKV (fun w => w.tongue == t && (w.key == k && w.text == x)) (pl t k x) (fun w => pl_eq ..) l
theorem drop_open (l : List Ut14.Open) (t k x : Nat) : dropK (l.map oKV) (pl t k x) = (Ut14.closed l t k x).map oKV :=
  dropK_of oKV (fun w => w.tongue == t && (w.key == k && w.text == x)) (pl t k x) (fun w => pl_eq ..) l
theorem put_open (l : List Ut14.Open) (t k x n : Nat) : putK (dropK (l.map oKV) (pl t k x)) (pl t k x) (nV n) = (Ut14.closed l t k x ++ [(⟨t, k, x, n⟩ : Ut14.Open)]).map oKV := by
  rw [putK_new _ (val_drop _ _), drop_open, List.map_append]
  rfl
/-! ### a package's tables -/
theorem val_texts (l : List Ut14.Item) (k : Nat) : valV (l.map tKV) (nK k) = (l.find? fun y => y.key == k).map fun y => nV y.text :=
  valV_of tKV (fun y => y.key == k) (nK k) (fun y => nK_eq ..) l
theorem val_bases (l : List Ut14.Item) (k : Nat) : valV (l.map bKV) (nK k) = (l.find? fun y => y.key == k).map fun y => nV y.base :=
  valV_of bKV (fun y => y.key == k) (nK k) (fun y => nK_eq ..) l
/-! ### the source -/
def Srt (s : List Ut14.Entry) : Prop := s.Pairwise fun a b => a.1 < b.1
theorem find_iff {l : List Ut14.Entry} (hn : (l.map (·.1)).Nodup) (k : Nat) (e : Ut14.Entry) : (l.find? fun x => x.1 == k) = some e ↔ e ∈ l ∧ e.1 = k := by
  induction l with
  | nil => simp
  | cons a l ih =>
    have hn : (a.1 :: l.map (·.1)).Nodup := hn
    obtain ⟨h1, h2⟩ := List.nodup_cons.mp hn
    rw [List.find?_cons]
    by_cases c : a.1 = k
    · rw [show (a.1 == k) = true from by rw [c]; exact beq_self_eq_true k]
      constructor
      · intro z
        have z := Option.some.inj z
        subst z
        exact ⟨List.mem_cons_self .., c⟩
      · rintro ⟨m, q⟩
        rcases List.mem_cons.mp m with z | z
        · rw [z]
        · exact absurd (List.mem_map.mpr ⟨e, z, q.trans c.symm⟩) h1
    · rw [show (a.1 == k) = false from beq_false_of_ne c]
      constructor
      · intro z
        obtain ⟨m, q⟩ := (ih h2).mp z
        exact ⟨List.mem_cons_of_mem _ m, q⟩
      · rintro ⟨m, q⟩
        rcases List.mem_cons.mp m with z | z
        · rw [z] at q
          exact absurd q c
        · exact (ih h2).mpr ⟨z, q⟩
theorem find_perm {l s : List Ut14.Entry} (hp : l.Perm s) (hn : (s.map (·.1)).Nodup) (k : Nat) : (l.find? fun x => x.1 == k) = s.find? fun x => x.1 == k := by
  have hl : (l.map (·.1)).Nodup := (hp.map (·.1)).nodup_iff.mpr hn
  apply Option.ext
  intro e
  rw [find_iff hl, find_iff hn, hp.mem_iff]
theorem Srt.nodup {s : List Ut14.Entry} (h : Srt s) : (s.map (·.1)).Nodup := by
  show (s.map (·.1)).Pairwise (· ≠ ·)
  rw [List.pairwise_map]
  exact List.Pairwise.imp (fun z => Nat.ne_of_lt z) h
theorem val_src {src s : List Ut14.Entry} (hp : src.Perm s) (hs : Srt s) (k : Nat) : valV (src.map eKV) (nK k) = ((s.find? fun e => e.1 == k).map fun e => e.2).map nV := by
  rw [valV_of eKV (fun y => y.1 == k) (nK k) (fun y => nK_eq ..), find_perm hp hs.nodup, Option.map_map]
  rfl
theorem drop_src (src : List Ut14.Entry) (k : Nat) : dropK (src.map eKV) (nK k) = (src.filter fun e => e.1 != k).map eKV :=
  dropK_of eKV (fun y => y.1 == k) (nK k) (fun y => nK_eq ..) src
def srcPut (src : List Ut14.Entry) (k x : Nat) : List Ut14.Entry := if (src.any fun e => e.1 == k) = true then src.map (fun e => if (e.1 == k) = true then (e.1, x) else e) else src ++ [(k, x)]
theorem put_src (src : List Ut14.Entry) (k x : Nat) : putK (src.map eKV) (nK k) (nV x) = (srcPut src k x).map eKV :=
  putK_of eKV (fun y => y.1 == k) (nK k) (nV x) (fun e => (e.1, x)) (k, x) (fun y => nK_eq ..) (fun _ _ => rfl) rfl src
theorem ins_new (k x : Nat) : ∀ s : List Ut14.Entry, (s.any fun e => e.1 == k) = false → (Ut14.insertEntry (k, x) s).Perm ((k, x) :: s)
  | [], _ => List.Perm.refl _
  | a :: s, h => by
    rw [List.any_cons, Bool.or_eq_false_iff] at h
    have ne : ¬ k = a.1 := fun z => by rw [z, beq_self_eq_true] at h; exact Bool.noConfusion h.1
    show (if k < a.1 then (k, x) :: a :: s else if k = a.1 then (k, x) :: s else a :: Ut14.insertEntry (k, x) s).Perm _
    by_cases c : k < a.1
    · rw [if_pos c]
    · rw [if_neg c, if_neg ne]
      exact ((ins_new k x s h.2).cons a).trans (List.Perm.swap ..)
theorem map_far (k x : Nat) : ∀ s : List Ut14.Entry, (∀ e ∈ s, k < e.1) → s.map (fun e => if (e.1 == k) = true then (e.1, x) else e) = s
  | [], _ => rfl
  | a :: s, h => by
    have h1 := h a (List.mem_cons_self ..)
    rw [List.map_cons, map_far k x s (fun e he => h e (List.mem_cons_of_mem _ he)), if_neg (by rw [beq_false_of_ne (by omega)]; exact Bool.false_ne_true)]
theorem ins_old (k x : Nat) : ∀ s : List Ut14.Entry, Srt s → (s.any fun e => e.1 == k) = true → Ut14.insertEntry (k, x) s = s.map (fun e => if (e.1 == k) = true then (e.1, x) else e)
  | [], _, h => by cases h
  | a :: s, hs, h => by
    obtain ⟨h1, h2⟩ := List.pairwise_cons.mp hs
    show (if k < a.1 then (k, x) :: a :: s else if k = a.1 then (k, x) :: s else a :: Ut14.insertEntry (k, x) s) = _
    by_cases e : k = a.1
    · rw [if_neg (by omega), if_pos e, List.map_cons, if_pos (by rw [e]; exact beq_self_eq_true _), map_far k x s (fun b hb => by rw [e]; exact h1 b hb), e]
    · rw [List.any_cons, beq_false_of_ne (fun z => e z.symm), Bool.false_or] at h
      obtain ⟨b, hb, eb⟩ := List.any_eq_true.mp h
      have eb := eq_of_beq eb
      have lt := h1 b hb
      rw [if_neg (by omega), if_neg e, List.map_cons, if_neg (by rw [beq_false_of_ne (fun z => e z.symm)]; exact Bool.false_ne_true), ins_old k x s h2 h]
theorem any_perm {l s : List Ut14.Entry} (hp : l.Perm s) (p : Ut14.Entry → Bool) : l.any p = s.any p := by
  rw [Bool.eq_iff_iff, List.any_eq_true, List.any_eq_true]
  constructor
  · rintro ⟨a, m, q⟩
    exact ⟨a, hp.mem_iff.mp m, q⟩
  · rintro ⟨a, m, q⟩
    exact ⟨a, hp.mem_iff.mpr m, q⟩
theorem srcPut_perm {src s : List Ut14.Entry} (hp : src.Perm s) (hs : Srt s) (k x : Nat) : (srcPut src k x).Perm (Ut14.insertEntry (k, x) s) := by
  unfold srcPut
  by_cases c : (src.any fun e => e.1 == k) = true
  · rw [if_pos c, ins_old k x s hs (by rw [← any_perm hp]; exact c)]
    exact hp.map _
  · rw [if_neg c]
    have c' : (s.any fun e => e.1 == k) = false := by
      rw [← any_perm hp]
      exact Bool.eq_false_iff.mpr c
    exact (List.perm_append_comm.trans (hp.cons (k, x))).trans (ins_new k x s c').symm
/-! ### what always holds of an office -/
structure OkW (N W : Nat) (g : Ut14.House) : Prop where
  srt : Srt g.source
  slen : g.source.length ≤ 10
  wlen : g.work.length ≤ W
  wpos : ∀ w ∈ g.work, w.trans ≠ 0
  wnd : g.work.Pairwise fun a b => ¬ (a.tongue = b.tongue ∧ a.key = b.key ∧ a.text = b.text)
  olen : g.open_.length ≤ N
  given : g.given = g.packages.length
  plen : g.packages.length ≤ 10
  num : ∀ (i : Nat) (p : Ut14.Package), g.packages[i]? = some p → p.number = i
  pnd : ∀ p ∈ g.packages, (p.items.map (·.key)).Nodup
  pil : ∀ p ∈ g.packages, p.items.length ≤ 6
  rlen : g.released.length ≤ 12
  rnum : ∀ (i : Nat) (r : Nat × Nat × List (Nat × Nat × Bool)), g.released[i]? = some r → r.1 = i
  rsrt : ∀ r ∈ g.released, r.2.2.Pairwise fun a b => a.1 < b.1
  rll : ∀ r ∈ g.released, r.2.2.length ≤ 10
abbrev Ok (N : Nat) (g : Ut14.House) : Prop := OkW N 60 g
theorem Ok.init : Ok 0 Ut14.init := ⟨List.Pairwise.nil, Nat.zero_le _, Nat.zero_le _, nofun, List.Pairwise.nil, Nat.le_refl _, rfl, Nat.zero_le _, fun i p h => by simp [Ut14.init] at h, nofun, nofun, Nat.zero_le _, fun i p h => by simp [Ut14.init] at h, nofun, nofun⟩
theorem Ok.mono {N M : Nat} {g : Ut14.House} (h : Ok N g) (l : N ≤ M) : Ok M g := { h with olen := Nat.le_trans h.olen l }
end Tof

namespace Tof
open PySem PySem.Spec PyProof.Rows L2
section
variable {P : Program} {w : World} {K : PySem.W.Frag} {mg : Str → Option Value} {base : Heap} {C CP : Addr}
/-- what a dict of the layer is, for a method's first question -/
theorem ty_dT {K : PySem.W.Frag} {H : Hp} {d : Addr} {kvs : List (List L2.Key × V)} (h : H d = some (.dT kvs)) : tyV K "dict" (.ref d) H := .inr (.inr (.inl ⟨rfl, .inr ⟨_, h⟩⟩))
theorem ty_dK {K : PySem.W.Frag} {H : Hp} {d : Addr} {kvs : List (L2.Key × V)} (h : H d = some (.dK kvs)) : tyV K "dict" (.ref d) H := .inr (.inr (.inl ⟨rfl, .inl ⟨_, h⟩⟩))
/-- a place: a tuple of three numbers -/
def TupAt (H : Hp) (b : Addr) (t k x : Nat) : Prop := H b = some (.tup ((pl t k x).map kV))
/-! ### work_at -/
def spWorkAt (C CP : Addr) : Sp := fun vs H Q _ => ∃ (L : Lay) (ro : Addr → Rl) (g : Ut14.House) (b : Addr) (t k x : Nat), vs = [.ref L.a, .ref b] ∧ At C CP L ro H g ∧ TupAt H b t k x ∧ Q (nV (Ut14.says g t k x)) H
theorem scWorkAt : FnScope ["self", "place"] ["self", "place"] (defScope sWorkAt) := ⟨rfl, rfl, rfl, by decide +kernel, rfl, by decide +kernel, by decide +kernel⟩
theorem ok_workAt {f : Addr} {fd : FuncData} (F : Fun K "work_at" "Records.work_at" sWorkAt f fd) (T : Txt K mg C CP) : FnOk P w K mg base CX0 1 f fd ["self", "place"] (spWorkAt C CP) := by
  refine F.ok scWorkAt (fun vs H Q E h => ?_) (fun cdv A outer s H vs Q E hr h => ⟨_, pss_one (ps_ret (pe_dget2 (hu_of hr) (pe_fld (pv 0) rfl) (pv 1) pe_int ⟨rfl, rfl, rfl, rfl⟩)), ?_⟩)
  · obtain ⟨L, ro, g, b, t, k, x, rfl, _⟩ := h
    rfl
  · obtain ⟨L, ro, g, b, t, k, x, rfl, hA, hb, q⟩ := h
    refine ⟨_, rfl, L.a, C, L.dx, _, _, rfl, hA.hA, T.cl, T.nW, rF_work, L.dW, rfl, .inr ⟨_, .inl hA.hW⟩, _, rfl, _, DGet.t hA.hW hb, ?_⟩
    rw [val_work]
    have e : ((Ut14.workOf g.work t k x).map nV).getD (.int 0) = nV (Ut14.says g t k x) := by
      unfold Ut14.says
      cases Ut14.workOf g.work t k x <;> rfl
    rw [e]
    exact q
/-! ### put_work -/
def spPutWork (C CP : Addr) : Sp := fun vs H Q _ => ∃ (L : Lay) (ro : Addr → Rl) (g : Ut14.House) (b : Addr) (t k x n : Nat), vs = [.ref L.a, .ref b, nV n] ∧ At C CP L ro H g ∧ TupAt H b t k x ∧ g.work.length < 1000 ∧
  Q .non (upd H L.dW (.dT ((Ut14.put g.work ⟨t, k, x, n⟩).map wKV)))
theorem scPutWork : FnScope ["self", "place", "translation"] ["self", "place", "translation"] (defScope sPutWork) := ⟨rfl, rfl, rfl, by decide +kernel, rfl, by decide +kernel, by decide +kernel⟩
theorem ok_putWork {f : Addr} {fd : FuncData} (F : Fun K "put_work" "Records.put_work" sPutWork f fd) (T : Txt K mg C CP) : FnOk P w K mg base CX0 1 f fd ["self", "place", "translation"] (spPutWork C CP) := by
  refine F.ok scPutWork (fun vs H Q E h => ?_) (fun cdv A outer s H vs Q E hr h => ⟨_, pss_cons
    (ps_expr (pe_bm PySem.F.plainAttrs_dict PySem.F.slot_dict_pop PySem.F.type_dict_pop (L2.DX.mt_popT (hu_of hr)) (pe_fld (pv 0) rfl) (pa_cons (pv 1) (pa_cons pe_non pa_nil))))
    (pss_one (ps_if (pt_cmpR op_gt (pv 2) pe_int (nomark _)) (pss_one (ps_dput (hu_of hr) (pe_fld (pv 0) rfl) (pv 1) (pv 2) rfl)) pss_nil)), ?_⟩)
  · obtain ⟨L, ro, g, b, t, k, x, n, rfl, _⟩ := h
    rfl
  · obtain ⟨L, ro, g, b, t, k, x, n, rfl, hA, hb, hl, q⟩ := h
    have hab : L.a ≠ L.dW := fun z => by
      have := hA.rA
      rw [z, hA.rW] at this
      cases this
    have hbb : b ≠ L.dW := ne_of hb hA.hW (fun z => nomatch z)
    -- behind the pop the table is as dropped
    have main : ∀ H1 : Hp, H1 = upd H L.dW (.dT (dropK (g.work.map wKV) (pl t k x))) → (tIfS (tTest (tOp (rI0 fun i j => .bl (decide (j < i))) (tVar 2) (tC (.int 0)))) (sDPut (tFld K (tVar 0) "work") (tVar 1) (tVar 2)) tNext) { nx := fun _ H' => Q .non H', rt := Q } [some (.ref L.a), some (.ref b), some (nV n)] H1 := by
      rintro H1 rfl
      refine ⟨_, rfl, _, _, rfl, rfl, _, rfl, ?_⟩
      by_cases c : n = 0
      · subst c
        refine if_false_of (by decide) ?_
        rw [put_zero]
        exact q
      · refine if_true_of (decide_eq_true (by omega)) ?_
        refine ⟨_, rfl, _, rfl, L.a, C, L.dx, _, _, rfl, by rw [upd_ne hab]; exact hA.hA, T.cl, T.nW, rF_work, _, rfl, L.dW, _, rfl, DPut.t upd_same (by rw [upd_ne hbb]; exact hb) ?_, ?_⟩
        · refine small1000 (Nat.le_trans (dropK_le _ _) ?_)
          rw [List.length_map]
          omega
        · rw [upd_upd, put_work _ _ _ _ _ c]
          exact q
    refine ⟨_, rfl, L.a, C, L.dx, _, _, rfl, hA.hA, T.cl, T.nW, rF_work, ty_dT hA.hW, _, rfl, L.dW, _, pl t k x, b, _, rfl, rfl, hA.hW, hb, fun v hv => main _ rfl, fun hv => main _ ?_⟩
    rw [drop_same hv]
    exact (upd_id hA.hW).symm
end
end Tof

namespace Tof
open PySem PySem.Spec PyProof.Rows L2
/-- a method, a def, as others call it -/
def MCal (P : Program) (w : World) (K : PySem.W.Frag) (mg : Str → Option Value) (base : Heap) (C : Addr) (m : Str) (k : Nat) (ps : List Str) (sp : Sp) : Prop :=
  ∃ (f : Addr) (fd : FuncData), Meth K C m f ∧ FnOk P w K mg base CX0 k f fd ps sp ∧ Binds K fd ps []
def GCal (P : Program) (w : World) (K : PySem.W.Frag) (mg : Str → Option Value) (base : Heap) (x : Str) (k : Nat) (ps : List Str) (sp : Sp) : Prop :=
  ∃ (f : Addr) (fd : FuncData), mg x = some (.ref f) ∧ PySem.W.keepIn K (.ref f) = true ∧ FnOk P w K mg base CX0 k f fd ps sp ∧ Binds K fd ps []
section
variable {C CP : Addr} {L : Lay} {ro ro' : Addr → Rl} {H H1 : Hp} {g g' : Ut14.House} {c : Ut14.Call} {Q : VK}
theorem Ans.done (h : Ans C CP L ro H g c Q) {ans : List Int} (e : Ut14.step g c = (g', ans)) (hA : At C CP L ro' H1 g') (fr : Fr ro H ro' H1) (free : ∀ b, H1 b = none → H b = none) (p : Addr) (hp : H1 p = none) :
    Q (.ref p) (upd H1 p (.lst (ans.map V.int))) :=
  h ro' _ p (free p hp) (by rw [e]; exact upd_same) (hA.fresh p hp) (by rw [e]; exact hA.new hp) (fr.trans (Fr.same (upd_new hp)))
theorem Ans.no (h : Ans C CP L ro H g c Q) {z : Int} (e : Ut14.step g c = (g, [z])) (hA : At C CP L ro H g) (s : Same H H1) (p : Addr) (hp : H1 p = none) : Q (.ref p) (upd H1 p (.lst [.int z])) :=
  h.done e (hA.same s) (Fr.same s) (fun b e => s.free e) p hp
end
section
variable {P : Program} {w : World} {K : PySem.W.Frag} {mg : Str → Option Value} {base : Heap} {C CP : Addr}
/-! ### growth_at, too_much_work -/
def gr (l : List Ut14.Work) (t k x n : Nat) : Int := (if n = 0 then 0 else 1) - (if (Ut14.workOf l t k x).isSome = true then 1 else 0)
def spGrowth (C CP : Addr) : Sp := fun vs H Q _ => ∃ (L : Lay) (ro : Addr → Rl) (g : Ut14.House) (b : Addr) (t k x n : Nat), vs = [.ref L.a, .ref b, nV n] ∧ At C CP L ro H g ∧ TupAt H b t k x ∧ Q (.int (gr g.work t k x n)) H
theorem scGrowth : FnScope ["self", "place", "translation", "before", "after"] ["self", "place", "translation"] (defScope sGrowth) := ⟨rfl, rfl, rfl, by decide +kernel, rfl, by decide +kernel, by decide +kernel⟩
theorem ok_growth {f : Addr} {fd : FuncData} (F : Fun K "growth_at" "Records.growth_at" sGrowth f fd) (T : Txt K mg C CP) : FnOk P w K mg base CX0 1 f fd ["self", "place", "translation"] (spGrowth C CP) := by
  refine F.ok scGrowth (fun vs H Q E h => ?_) (fun cdv A outer s H vs Q E hr h => ⟨_, pss_cons
    (ps_set (i := 3) scGrowth.nd rfl (Or.inl rfl) (pe_ifExp (pt_cmp (pc_din (hu_of hr) (pv 1) (pe_fld (pv 0) rfl))) pe_int pe_int))
    (pss_cons (ps_set (i := 4) scGrowth.nd rfl (Or.inl rfl) (pe_ifExp (pt_cmpR op_gt (pv 2) pe_int (nomark _)) pe_int pe_int))
    (pss_one (ps_ret (pe_op op_sub (pv 4) (pv 3))))), ?_⟩)
  · obtain ⟨L, ro, g, b, t, k, x, n, rfl, _⟩ := h
    rfl
  · obtain ⟨L, ro, g, b, t, k, x, n, rfl, hA, hb, q⟩ := h
    refine ⟨_, rfl, _, rfl, L.a, C, L.dx, _, _, rfl, hA.hA, T.cl, T.nW, rF_work, L.dW, _, rfl, DGet.t hA.hW hb, _, rfl, ?_⟩
    rw [val_work]
    have last : ∀ u : Int, u = (if (Ut14.workOf g.work t k x).isSome = true then 1 else 0) → (tSeq (tAsg (tIf (tTest (tOp (rI0 fun i j => .bl (decide (j < i))) (tVar 2) (tC (.int 0)))) (tC (.int 1)) (tC (.int 0))) (gName 4)) (tRet (tOp (rI0 fun i j => .int (i - j)) (tVar 4) (tVar 3))))
        { nx := fun _ H' => Q .non H', rt := Q } [some (.ref L.a), some (.ref b), some (nV n), some (.int u), none] H := by
      intro u hu
      refine ⟨_, rfl, _, _, rfl, rfl, _, rfl, ?_⟩
      unfold gr at q
      rw [← hu] at q
      by_cases c : n = 0
      · subst c
        refine if_false_of (by decide) ?_
        exact ⟨_, rfl, _, rfl, _, _, rfl, rfl, q⟩
      · refine if_true_of (decide_eq_true (by omega)) ?_
        rw [if_neg c] at q
        exact ⟨_, rfl, _, rfl, _, _, rfl, rfl, q⟩
    cases e : Ut14.workOf g.work t k x with
    | none => exact if_false_of (by rfl) (last 0 (by rw [e]; rfl))
    | some y => exact if_true_of (by rfl) (last 1 (by rw [e]; rfl))
def spTooMuch (C CP : Addr) : Sp := fun vs H Q _ => ∃ (L : Lay) (ro : Addr → Rl) (g : Ut14.House) (z : Int), vs = [.ref L.a, .int z] ∧ At C CP L ro H g ∧ Q (.bl (decide (60 < (g.work.length : Int) + z))) H
theorem scTooMuch : FnScope ["self", "growth"] ["self", "growth"] (defScope sTooMuch) := ⟨rfl, rfl, rfl, by decide +kernel, rfl, by decide +kernel, by decide +kernel⟩
theorem ok_tooMuch {f : Addr} {fd : FuncData} (F : Fun K "too_much_work" "Records.too_much_work" sTooMuch f fd) (T : Txt K mg C CP) : FnOk P w K mg base CX0 1 f fd ["self", "growth"] (spTooMuch C CP) := by
  refine F.ok scTooMuch (fun vs H Q E h => ?_) (fun cdv A outer s H vs Q E hr h => ⟨_, pss_one (ps_ret (pe_cmpR op_gt (pe_op op_add (pe_callB call_len_dT (by rfl) T.len PySem.boot_len (pa_cons (pe_fld (pv 0) rfl) pa_nil)) (pv 1)) (pe_gi T.MOST_WORK) (nomark _))), ?_⟩)
  · obtain ⟨L, ro, g, z, rfl, _⟩ := h
    rfl
  · obtain ⟨L, ro, g, z, rfl, hA, q⟩ := h
    refine ⟨_, rfl, L.a, C, L.dx, _, _, rfl, hA.hA, T.cl, T.nW, rF_work, L.dW, _, rfl, hA.hW, _, rfl, _, _, rfl, rfl, _, _, rfl, rfl, ?_⟩
    rw [List.length_map]
    exact q
/-! ### set_text -/
def spSetText (C CP : Addr) : Sp := fun vs H Q _ => ∃ (L : Lay) (ro : Addr → Rl) (g : Ut14.House) (N k x : Nat), vs = [.ref L.a, nV k, nV x] ∧ At C CP L ro H g ∧ Ok N g ∧ Ans C CP L ro H g (.text k x) Q
theorem scSetText : FnScope ["self", "key", "text"] ["self", "key", "text"] (defScope sSetText) := ⟨rfl, rfl, rfl, by decide +kernel, rfl, by decide +kernel, by decide +kernel⟩
theorem ok_setText {f : Addr} {fd : FuncData} (F : Fun K "set_text" "Records.set_text" sSetText f fd) (T : Txt K mg C CP) (M : MCal P w K mg base C "how_it_stands" 1 ["self"] (spStands C CP)) : FnOk P w K mg base CX0 2 f fd ["self", "key", "text"] (spSetText C CP) := by
  obtain ⟨f1, fd1, m1, F1, b1⟩ := M
  refine F.ok scSetText (fun vs H Q E h => ?_) (fun cdv A outer s H vs Q E hr h => ⟨_, pss_cons
    (ps_if (PW.pt (pw_or (pt_cmpR op_gt (pv 1) (pe_gi T.LAST_KEY) (nomark _)) (pw_or (pt_cmpR op_lt (pv 2) pe_int (nomark _)) (pw_or1 (pt_cmpR op_gt (pv 2) (pe_gi T.LAST_TEXT) (nomark _)))))) (pss_one (ps_ret (pe_lst (pa_cons (pe_gi T.NOT_AS_TOLD) pa_nil)))) pss_nil)
    (pss_cons (ps_if (PW.pt (pw_and (pt_cmp (pc_dnotin (hu_of hr) (pv 1) (pe_fld (pv 0) rfl))) (pw_and1 (pt_cmpR op_ge (pe_callB call_lenD (by rfl) T.len PySem.boot_len (pa_cons (pe_fld (pv 0) rfl) pa_nil)) (pe_gi T.MOST_KEYS) (nomark _))))) (pss_one (ps_ret (pe_lst (pa_cons (pe_gi T.FULL) pa_nil)))) pss_nil)
    (pss_cons (ps_dput (hu_of hr) (pe_fld (pv 0) rfl) (pv 1) (pv 2) rfl)
    (pss_one (ps_ret (pe_meth0 (pv 0) T.cl m1 F1 hr b1 .nil pass0))))), ?_⟩)
  · obtain ⟨L, ro, g, N, k, x, rfl, _⟩ := h
    rfl
  · obtain ⟨L, ro, g, N, k, x, rfl, hA, hO, q⟩ := h
    obtain ⟨src, hs, hperm⟩ := hA.hS
    have hrS : ro L.dS ≠ .oth := by rw [hA.rS]; exact nofun
    have one : ∀ (z : Int), Ut14.step g (.text k x) = (g, [z]) → 1 ≤ sizeLine ∧ ∀ p, H p = none → Q (.ref p) (upd H p (.lst [.int z])) := fun z e => ⟨by decide, fun p hp => q.no e hA (Same.refl H) p hp⟩
    refine ⟨_, rfl, _, _, rfl, rfl, _, rfl, ?_⟩
    by_cases c1 : 99 < k
    · exact if_true_of (decide_eq_true (by omega)) (iteT (one _ (if_pos (.inl c1))))
    refine if_false_of (decide_eq_false (by omega)) ?_
    refine ⟨_, rfl, _, _, rfl, rfl, _, rfl, ?_⟩
    by_cases c2 : x = 0
    · exact if_true_of (decide_eq_true (by omega)) (iteT (one _ (if_pos (.inr (.inl c2)))))
    refine if_false_of (decide_eq_false (by omega)) ?_
    refine ⟨_, rfl, _, _, rfl, rfl, _, rfl, ?_⟩
    by_cases c3 : 999 < x
    · exact if_true_of (decide_eq_true (by omega)) (one _ (if_pos (.inr (.inr c3))))
    refine if_false_of (decide_eq_false (by omega)) ?_
    have n1 : ¬ (99 < k ∨ x = 0 ∨ 999 < x) := by omega
    have hv := val_src hperm hO.srt k
    have hlen : src.length = g.source.length := hperm.length_eq
    -- key not in self.source and ..
    have fin : ¬ ((Ut14.textOf g k).isNone = true ∧ 10 ≤ g.source.length) → (tSeq (sDPut (tFld K (tVar 0) "source") (tVar 1) (tVar 2)) (tRet (tMeth C "how_it_stands" (spStands C CP) [] E0 (tVar 0) tNil))) { nx := fun _ H' => Q .non H', rt := Q } [some (.ref L.a), some (nV k), some (nV x)] H := by
      intro n2
      refine ⟨_, rfl, _, rfl, L.a, C, L.dx, _, _, rfl, hA.hA, T.cl, T.nS, rF_source, _, rfl, L.dS, _, rfl, DPut.k (k := nK k) hs (small1000 (by rw [List.length_map, hlen]; have := hO.slen; omega)), ?_⟩
      rw [put_src]
      have hA' := hA.setSrc (srcPut_perm hperm hO.srt k x)
      refine ⟨_, rfl, L.a, L.dx, _, rfl, hA'.hA, rF_none (by decide +kernel), L, ro, _, rfl, hA', ?_⟩
      exact q.done ((if_neg n1).trans (if_neg n2)) hA' (Fr.upd hrS) (fun b e => upd_free e)
    refine ⟨_, rfl, _, rfl, L.a, C, L.dx, _, _, rfl, hA.hA, T.cl, T.nS, rF_source, L.dS, _, rfl, DGet.k (k := nK k) hs, _, rfl, ?_⟩
    rw [hv]
    show if (!((Ut14.textOf g k).map nV).isSome) = true then _ else _
    cases e : Ut14.textOf g k with
    | some y => exact if_false_of (by rfl) (iteF (fin (by rw [e]; exact fun z => nomatch z.1)))
    | none =>
      refine if_true_of (by rfl) ?_
      refine ⟨_, rfl, L.a, C, L.dx, _, _, rfl, hA.hA, T.cl, T.nS, rF_source, L.dS, _, rfl, hs, _, _, rfl, rfl, _, rfl, ?_⟩
      by_cases c4 : 10 ≤ g.source.length
      · refine if_true_of (decide_eq_true (by rw [List.length_map, hlen]; omega)) (one _ ?_)
        exact (if_neg n1).trans (if_pos ⟨by rw [e]; rfl, c4⟩)
      · exact if_false_of (decide_eq_false (by rw [List.length_map, hlen]; omega)) (fin fun z => c4 z.2)
end
end Tof

namespace Tof
open PySem PySem.Spec PyProof.Rows L2
/-! ### how much work there is behind a put -/
abbrev atP (t k x : Nat) : Ut14.Work → Bool := fun w => w.tongue == t && (w.key == k && w.text == x)
theorem atP_iff {t k x : Nat} {w : Ut14.Work} : atP t k x w = true ↔ w.tongue = t ∧ w.key = k ∧ w.text = x := by
  unfold atP
  rw [Bool.and_eq_true, Bool.and_eq_true, beq_iff_eq, beq_iff_eq, beq_iff_eq]
abbrev Apart (l : List Ut14.Work) : Prop := l.Pairwise fun a b => ¬ (a.tongue = b.tongue ∧ a.key = b.key ∧ a.text = b.text)
theorem find_work (t k x : Nat) (l : List Ut14.Work) : (Ut14.workOf l t k x).isSome = (l.find? (atP t k x)).isSome := by
  unfold Ut14.workOf
  cases l.find? (atP t k x) <;> rfl
theorem filter_one (t k x : Nat) : ∀ l : List Ut14.Work, Apart l → (l.filter fun y => !(atP t k x y)).length + (if (Ut14.workOf l t k x).isSome = true then 1 else 0) = l.length
  | [], _ => rfl
  | a :: l, h => by
    obtain ⟨h1, h2⟩ := List.pairwise_cons.mp h
    rw [find_work]
    cases c : atP t k x a with
    | true =>
      have e : (l.filter fun y => !(atP t k x y)) = l := List.filter_eq_self.mpr fun b hb => by
        rw [Bool.not_eq_true', ← Bool.not_eq_true]
        intro z
        obtain ⟨p1, p2, p3⟩ := atP_iff.mp c
        obtain ⟨q1, q2, q3⟩ := atP_iff.mp z
        exact h1 b hb ⟨p1.trans q1.symm, p2.trans q2.symm, p3.trans q3.symm⟩
      rw [List.filter_cons, c, List.find?_cons, c]
      show (l.filter fun y => !(atP t k x y)).length + 1 = l.length + 1
      rw [e]
    | false =>
      have ih := filter_one t k x l h2
      rw [find_work] at ih
      rw [List.filter_cons, c, List.find?_cons, c]
      show (l.filter fun y => !(atP t k x y)).length + 1 + (if (l.find? (atP t k x)).isSome = true then 1 else 0) = l.length + 1
      omega
theorem put_len {l : List Ut14.Work} (h : Apart l) (t k x n : Nat) : ((Ut14.put l ⟨t, k, x, n⟩).length : Int) = l.length + gr l t k x n := by
  have e := filter_one t k x l h
  unfold Ut14.put gr
  rw [List.length_append]
  show (((l.filter fun y => !(atP t k x y)).length + (if n = 0 then [] else [(⟨t, k, x, n⟩ : Ut14.Work)]).length : Nat) : Int) = _
  generalize (l.filter fun y => !(atP t k x y)).length = m at e ⊢
  cases d : (Ut14.workOf l t k x).isSome <;> rw [d] at e <;> by_cases c : n = 0
  · rw [if_pos c, if_pos c, List.length_nil, if_neg Bool.false_ne_true]
    rw [if_neg Bool.false_ne_true] at e
    omega
  · rw [if_neg c, if_neg c, List.length_singleton, if_neg Bool.false_ne_true]
    rw [if_neg Bool.false_ne_true] at e
    omega
  · rw [if_pos c, if_pos c, List.length_nil, if_pos rfl]
    rw [if_pos rfl] at e
    omega
  · rw [if_neg c, if_neg c, List.length_singleton, if_pos rfl]
    rw [if_pos rfl] at e
    omega
section
variable {P : Program} {w : World} {K : PySem.W.Frag} {mg : Str → Option Value} {base : Heap} {C CP : Addr}
/-! ### drop_key -/
def spDropKey (C CP : Addr) : Sp := fun vs H Q _ => ∃ (L : Lay) (ro : Addr → Rl) (g : Ut14.House) (N k : Nat), vs = [.ref L.a, nV k] ∧ At C CP L ro H g ∧ Ok N g ∧ Ans C CP L ro H g (.gone k) Q
theorem scDropKey : FnScope ["self", "key"] ["self", "key"] (defScope sDropKey) := ⟨rfl, rfl, rfl, by decide +kernel, rfl, by decide +kernel, by decide +kernel⟩
theorem ok_dropKey {f : Addr} {fd : FuncData} (F : Fun K "drop_key" "Records.drop_key" sDropKey f fd) (T : Txt K mg C CP) (M : MCal P w K mg base C "how_it_stands" 1 ["self"] (spStands C CP)) : FnOk P w K mg base CX0 2 f fd ["self", "key"] (spDropKey C CP) := by
  obtain ⟨f1, fd1, m1, F1, b1⟩ := M
  refine F.ok scDropKey (fun vs H Q E h => ?_) (fun cdv A outer s H vs Q E hr h => ⟨_, pss_cons
    (ps_if (pt_cmp (pc_dnotin (hu_of hr) (pv 1) (pe_fld (pv 0) rfl))) (pss_one (ps_ret (pe_lst (pa_cons (pe_gi T.MISSING) pa_nil)))) pss_nil)
    (pss_cons (ps_expr (pe_dpop1 (pe_fld (pv 0) rfl) (pv 1) ⟨rfl, rfl, rfl, rfl⟩))
    (pss_one (ps_ret (pe_meth0 (pv 0) T.cl m1 F1 hr b1 .nil pass0)))), ?_⟩)
  · obtain ⟨L, ro, g, N, k, rfl, _⟩ := h
    rfl
  · obtain ⟨L, ro, g, N, k, rfl, hA, hO, q⟩ := h
    obtain ⟨src, hs, hperm⟩ := hA.hS
    have hrS : ro L.dS ≠ .oth := by rw [hA.rS]; exact nofun
    have hv : valV (src.map eKV) (nK k) = (Ut14.textOf g k).map nV := val_src hperm hO.srt k
    refine ⟨_, rfl, _, rfl, L.a, C, L.dx, _, _, rfl, hA.hA, T.cl, T.nS, rF_source, L.dS, _, rfl, DGet.k (k := nK k) hs, _, rfl, ?_⟩
    rw [hv]
    cases e : Ut14.textOf g k with
    | none =>
      refine if_true_of (by rfl) ⟨by decide, fun p hp => ?_⟩
      exact q.no (if_pos (by rw [e]; rfl)) hA (Same.refl H) p hp
    | some y =>
      refine if_false_of (by rfl) ?_
      refine ⟨_, rfl, L.a, C, L.dx, _, _, rfl, hA.hA, T.cl, T.nS, rF_source, L.dS, rfl, .inl ⟨_, .inl hs⟩, _, rfl, _, nK k, nV y, hs, rfl, by rw [hv, e]; rfl, ?_⟩
      rw [drop_src]
      have hA' := hA.setSrc (src := src.filter fun e => e.1 != k) (hperm.filter _)
      refine ⟨_, rfl, L.a, L.dx, _, rfl, hA'.hA, rF_none (by decide +kernel), L, ro, _, rfl, hA', ?_⟩
      exact q.done (if_neg (by rw [e]; exact nofun)) hA' (Fr.upd hrS) (fun b e => upd_free e)
/-! ### set_translation -/
def spSetTr (C CP : Addr) : Sp := fun vs H Q _ => ∃ (L : Lay) (ro : Addr → Rl) (g : Ut14.House) (N t k n : Nat), vs = [.ref L.a, nV t, nV k, nV n] ∧ At C CP L ro H g ∧ Ok N g ∧ Ans C CP L ro H g (.translate t k n) Q
theorem scSetTr : FnScope ["self", "tongue", "key", "translation", "place"] ["self", "tongue", "key", "translation"] (defScope sSetTr) := ⟨rfl, rfl, rfl, by decide +kernel, rfl, by decide +kernel, by decide +kernel⟩
theorem ok_setTr {f : Addr} {fd : FuncData} (F : Fun K "set_translation" "Records.set_translation" sSetTr f fd) (T : Txt K mg C CP) (M : MCal P w K mg base C "how_it_stands" 1 ["self"] (spStands C CP))
    (M2 : MCal P w K mg base C "growth_at" 1 ["self", "place", "translation"] (spGrowth C CP)) (M3 : MCal P w K mg base C "too_much_work" 1 ["self", "growth"] (spTooMuch C CP)) (M4 : MCal P w K mg base C "put_work" 1 ["self", "place", "translation"] (spPutWork C CP)) :
    FnOk P w K mg base CX0 2 f fd ["self", "tongue", "key", "translation"] (spSetTr C CP) := by
  obtain ⟨f1, fd1, m1, F1, b1⟩ := M
  obtain ⟨f2, fd2, m2, F2, b2⟩ := M2
  obtain ⟨f3, fd3, m3, F3, b3⟩ := M3
  obtain ⟨f4, fd4, m4, F4, b4⟩ := M4
  refine F.ok scSetTr (fun vs H Q E h => ?_) (fun cdv A outer s H vs Q E hr h => ⟨_, pss_cons
    (ps_if (PW.pt (pw_or (pt_cmpR op_gt (pv 1) (pe_gi T.LAST_TONGUE) (nomark _)) (pw_or1 (pt_cmpR op_gt (pv 3) (pe_gi T.LAST_TRANSLATION) (nomark _))))) (pss_one (ps_ret (pe_lst (pa_cons (pe_gi T.NOT_AS_TOLD) pa_nil)))) pss_nil)
    (pss_cons (ps_if (pt_cmp (pc_dnotin (hu_of hr) (pv 2) (pe_fld (pv 0) rfl))) (pss_one (ps_ret (pe_lst (pa_cons (pe_gi T.MISSING) pa_nil)))) pss_nil)
    (pss_cons (ps_set (i := 4) scSetTr.nd rfl (Or.inl rfl) (pe_tup (pa_cons (pv 1) (pa_cons (pv 2) (pa_cons (pe_dget (hu_of hr) (pe_fld (pv 0) rfl) (pv 2) (fun _ _ => rfl)) pa_nil)))))
    (pss_cons (ps_if (pt_val (pe_meth (pv 0) T.cl m3 F3 hr b3 .nil pass0 (pa_cons (pe_meth (pv 0) T.cl m2 F2 hr b2 .nil pass0 (pa_cons (pv 4) (pa_cons (pv 3) pa_nil))) pa_nil))) (pss_one (ps_ret (pe_lst (pa_cons (pe_gi T.FULL) pa_nil)))) pss_nil)
    (pss_cons (ps_expr (pe_meth (pv 0) T.cl m4 F4 hr b4 .nil pass0 (pa_cons (pv 4) (pa_cons (pv 3) pa_nil))))
    (pss_one (ps_ret (pe_meth0 (pv 0) T.cl m1 F1 hr b1 .nil pass0))))))), ?_⟩)
  · obtain ⟨L, ro, g, N, t, k, n, rfl, _⟩ := h
    rfl
  · obtain ⟨L, ro, g, N, t, k, n, rfl, hA, hO, q⟩ := h
    obtain ⟨src, hs, hperm⟩ := hA.hS
    have hv : valV (src.map eKV) (nK k) = (Ut14.textOf g k).map nV := val_src hperm hO.srt k
    have one : ∀ (z : Int), Ut14.step g (.translate t k n) = (g, [z]) → 1 ≤ sizeLine ∧ ∀ p, H p = none → Q (.ref p) (upd H p (.lst [.int z])) := fun z e => ⟨by decide, fun p hp => q.no e hA (Same.refl H) p hp⟩
    refine ⟨_, rfl, _, _, rfl, rfl, _, rfl, ?_⟩
    by_cases c1 : 3 < t
    · exact if_true_of (decide_eq_true (by omega)) (iteT (one _ (if_pos (.inl c1))))
    refine if_false_of (decide_eq_false (by omega)) ?_
    refine ⟨_, rfl, _, _, rfl, rfl, _, rfl, ?_⟩
    by_cases c2 : 999 < n
    · exact if_true_of (decide_eq_true (by omega)) (one _ (if_pos (.inr c2)))
    refine if_false_of (decide_eq_false (by omega)) ?_
    have n1 : ¬ (Ut14.TONGUES ≤ t ∨ 999 < n) := fun z => z.elim (fun z => c1 z) c2
    refine ⟨_, rfl, _, rfl, L.a, C, L.dx, _, _, rfl, hA.hA, T.cl, T.nS, rF_source, L.dS, _, rfl, DGet.k (k := nK k) hs, _, rfl, ?_⟩
    rw [hv]
    cases e : Ut14.textOf g k with
    | none =>
      refine if_true_of (by rfl) (one _ ((if_neg n1).trans ?_))
      rw [e]
    | some y =>
      have st : Ut14.step g (.translate t k n) = if 60 < (Ut14.put g.work ⟨t, k, y, n⟩).length then (g, [-5]) else ({ g with work := Ut14.put g.work ⟨t, k, y, n⟩ }, Ut14.told { g with work := Ut14.put g.work ⟨t, k, y, n⟩ }) := by
        refine (if_neg n1).trans ?_
        rw [e]
      refine if_false_of (by rfl) ?_
      refine ⟨_, rfl, _, rfl, _, rfl, L.a, C, L.dx, _, _, rfl, hA.hA, T.cl, T.nS, rF_source, _, rfl, L.dS, nV y, rfl, (by have z := DGet.k (k := nK k) hs; rw [hv, e] at z; exact z), by show 3 ≤ sizeLine; decide, fun b hb => ?_⟩
      have sm : Same H (upd H b (.tup [nV t, nV k, nV y])) := upd_new hb
      have hA1 := hA.same sm
      have tb : TupAt (upd H b (.tup [nV t, nV k, nV y])) b t k y := upd_same
      refine ⟨_, rfl, L.a, L.dx, _, rfl, hA1.hA, rF_none (by decide +kernel), _, rfl, L.a, L.dx, _, rfl, hA1.hA, rF_none (by decide +kernel), _, rfl, _, rfl, L, ro, g, b, t, k, y, n, rfl, hA1, tb, L, ro, g, _, rfl, hA1, _, rfl, ?_⟩
      have pl := put_len hO.wnd t k y n
      by_cases c3 : 60 < (Ut14.put g.work ⟨t, k, y, n⟩).length
      · refine if_true_of (decide_eq_true (by omega)) ⟨by decide, fun p hp => ?_⟩
        exact q.no (st.trans (if_pos c3)) hA sm p hp
      · refine if_false_of (decide_eq_false (by omega)) ?_
        refine ⟨_, rfl, L.a, L.dx, _, rfl, hA1.hA, rF_none (by decide +kernel), _, rfl, _, rfl, L, ro, g, b, t, k, y, n, rfl, hA1, tb, by have := hO.wlen; omega, ?_⟩
        have hA2 := hA1.setWork (Ut14.put g.work ⟨t, k, y, n⟩)
        refine ⟨_, rfl, L.a, L.dx, _, rfl, hA2.hA, rF_none (by decide +kernel), L, ro, _, rfl, hA2, ?_⟩
        exact q.done (st.trans (if_neg c3)) hA2 ((Fr.same sm).trans (Fr.upd (by rw [hA.rW]; exact nofun))) (fun b e => sm.free (upd_free e))
end
end Tof

namespace Tof
open PySem PySem.Spec PyProof.Rows L2
/-! ### len(set(numbers)) -/
def ded (ns : List Int) : List Int := firstMet (fun i => ns.getD i 0) ns.length
theorem ded_step (ns : List Int) : ∀ i, i ≤ ns.length → (firstMet (fun i => ns.getD i 0) i).length = i → firstMet (fun i => ns.getD i 0) i = ns.take i ∧ (ns.take i).Nodup
  | 0, _, _ => ⟨rfl, List.nodup_nil⟩
  | i + 1, hi, h => by
    have small : i < ns.length := hi
    have e1 : ns.getD i 0 = ns[i] :=
      (by rw [List.getD_eq_getElem?_getD, List.getElem?_eq_getElem small] <;> rfl)
    have e2 : ns.take (i + 1) = ns.take i ++ [ns[i]] :=
      (by rw [List.take_add_one, List.getElem?_eq_getElem small] <;> rfl)
    have le := firstMet_length_le (fun i => ns.getD i 0) i
    rw [firstMet_succ] at h ⊢
    unfold step_dedup at h ⊢
    by_cases c : ((firstMet (fun i => ns.getD i 0) i).any (· == ns.getD i 0)) = true
    · rw [if_pos c] at h
      omega
    · rw [if_neg c] at h ⊢
      rw [List.length_append] at h
      obtain ⟨q1, q2⟩ := ded_step ns i (Nat.le_of_lt small) (by have : ([ns.getD i 0] : List Int).length = 1 := rfl; omega)
      rw [e1] at c ⊢
      rw [q1, e2]
      refine ⟨rfl, nd_snoc q2 fun m => c ?_⟩
      rw [q1]
      exact List.any_eq_true.mpr ⟨_, m, beq_self_eq_true _⟩
theorem ded_len (ns : List Int) : decide (((ded ns).length : Int) = (ns.length : Int)) = decide ns.Nodup := by
  by_cases c : ns.Nodup
  · rw [decide_eq_true c, decide_eq_true]
    unfold ded
    rw [RZ.firstMet_nodup c ns.length (Nat.le_refl _), List.take_length]
  · rw [decide_eq_false c, decide_eq_false]
    intro z
    have q := (ded_step ns ns.length (Nat.le_refl _) (show (ded ns).length = ns.length by omega)).2
    rw [List.take_length] at q
    exact c q
def tLenSetA (K : PySem.W.Frag) (ta : TE) : TE := fun σ H Q => ta σ H fun x H1 => ∃ (l : Addr) (ns : List Int), x = .ref l ∧ SqL K H1 l (ns.map V.int) ∧ ns.length ≤ 2000 ∧ Q (.int ((ded ns).length : Nat)) H1
theorem pe_lenSetA {X : Cx} {a : Expr} {ta : TE} {p1 p2 p3 p4 : Pos}
    (gl : Gl X "len") (ml : X.mg "len" = none) (gs : Gl X "set") (ms : X.mg "set" = none)
    (ha : PE X a ta) (hc : X.calm = true := by rfl) (one : starEach [a] X.env = (false, eval a X.env) :: starEach [] X.env := by rfl) :
    PE X (.Call (.Name "len" p1) [.Call (.Name "set" p2) [a] [] p3] [] p4) (tLenSetA X.K ta) := by
  constructor
  intro pins s σ H Q I h
  refine Call_ (ld_blt I gl ml boot_len (callWith_builtin1 (args_cons ?_ rfl) rfl rfl))
  refine Call_ (ld_blt I gs ms boot_set (callWith_type1 (args_cons (thn (ha.run pins s σ H _ I h) fun v s1 ⟨x, H1, I1, r1, q1⟩ => args_nil ?_) one) one rfl))
  obtain ⟨l, ns, rfl, hq, hl, q1⟩ := q1
  cases r1
  obtain ⟨items, r, pl, _⟩ := I1.list hq
  have hsz : items.toArray.size = ns.length := by
    rw [List.size_toArray, ← r.length, List.length_map]
  refine call_set_list (I1.ok.hd hc) pl.isList (by simpa using RZ.intsAre_vals r) (by rw [hsz]; unfold scanBound; omega) fun h' tk hS hk => args_nil ?_
  rw [hsz] at hS
  obtain ⟨ob, en, pn, tb, h1, h2, h3, _, _, _, h4, h5⟩ := hS
  have hn : en.size = (ded ns).length := h5
  have after := I1.kept (h' := h') (t' := tk) fun b u e => hk b u (Heap.lt_size e) e
  have le : (ded ns).length ≤ ns.length := firstMet_length_le _ _
  refine call_len_set h1 h2 h3 h4 (by rw [hn]; omega) ?_
  exact ⟨.int ((ded ns).length : Nat), H1, after.tok _, ⟨_, by rw [hn]⟩, q1⟩
/-! ### one twice, in the specification's words -/
theorem eraseDups_le : ∀ (n : Nat) (l : List Nat), l.length ≤ n → l.eraseDups.length ≤ l.length ∧ (l.eraseDups.length = l.length ↔ l.Nodup)
  | _, [], _ => by simp
  | 0, a :: l, h => by simp at h
  | n + 1, a :: l, h => by
    have hl : l.length ≤ n := Nat.le_of_succ_le_succ h
    have hf : (l.filter fun b => !b == a).length ≤ l.length := List.length_filter_le _ _
    obtain ⟨i1, i2⟩ := eraseDups_le n (l.filter fun b => !b == a) (Nat.le_trans hf hl)
    rw [List.eraseDups_cons]
    show _ + 1 ≤ _ + 1 ∧ (_ + 1 = _ + 1 ↔ _)
    refine ⟨by omega, ?_⟩
    rw [List.nodup_cons]
    constructor
    · intro z
      have hfl : (l.filter fun b => !b == a).length = l.length := by omega
      have hall := List.filter_eq_self.mp (List.filter_sublist.eq_of_length hfl)
      have he : (l.filter fun b => !b == a) = l := List.filter_sublist.eq_of_length hfl
      refine ⟨fun m => ?_, ?_⟩
      · have := hall a m
        simp at this
      · rw [he] at i2
        exact i2.mp (by rw [he] at z; omega)
    · rintro ⟨h1, h2⟩
      have he : (l.filter fun b => !b == a) = l := List.filter_eq_self.mpr fun b hb => by
        have : b ≠ a := fun z => h1 (by rw [← z]; exact hb)
        simp [this]
      rw [he] at i2 ⊢
      have := i2.mpr h2
      omega
theorem twice_iff (l : List Nat) : l.eraseDups.length ≠ l.length ↔ ¬ l.Nodup := not_congr (eraseDups_le l.length l (Nat.le_refl _)).2
theorem nodup_cast (l : List Nat) : (l.map fun (n : Nat) => (n : Int)).Nodup ↔ l.Nodup := by
  show (l.map fun (n : Nat) => (n : Int)).Pairwise (· ≠ ·) ↔ l.Pairwise (· ≠ ·)
  rw [List.pairwise_map]
  constructor
  · exact fun h => h.imp fun z q => z (by rw [q])
  · exact fun h => h.imp fun z q => z (by omega)
abbrev sFits : Stmt := top 21
abbrev sPlace : Stmt := top 22
section
variable {P : Program} {w : World} {K : PySem.W.Frag} {mg : Str → Option Value} {base : Heap} {C CP : Addr}
/-! ### fits_a_package -/
def fits (l : List Nat) : Bool := decide (1 ≤ l.length) && (decide (l.length ≤ 6) && decide l.Nodup)
def spFits (K : PySem.W.Frag) : Sp := fun vs H Q _ => ∃ (a : Addr) (l : List Nat), vs = [.ref a] ∧ SqL K H a (l.map nV) ∧ Q (.bl (fits l)) H
theorem scFits : FnScope ["chosen"] ["chosen"] (defScope sFits) := ⟨rfl, rfl, rfl, by decide +kernel, rfl, by decide +kernel, by decide +kernel⟩
theorem ok_fits {f : Addr} {fd : FuncData} (F : Fun K "fits_a_package" "fits_a_package" sFits f fd) (T : Txt K mg C CP) : FnOk P w K mg base CX0 1 f fd ["chosen"] (spFits K) := by
  refine F.ok scFits (fun vs H Q E h => ?_) (fun cdv A outer s H vs Q E hr h => ⟨_, pss_cons
    (ps_if (PW.pt (pw_or (pt_cmpR op_lt (pe_callB call_len_seq (by rfl) T.len PySem.boot_len (pa_cons (pv 0) pa_nil)) pe_int (nomark _)) (pw_or1 (pt_cmpR op_gt (pe_callB call_len_seq (by rfl) T.len PySem.boot_len (pa_cons (pv 0) pa_nil)) (pe_gi T.MOST_IN_PACKAGE) (nomark _))))) (pss_one (ps_ret pe_bl)) pss_nil)
    (pss_one (ps_ret (pe_cmpR op_eq (pe_lenSetA (by rfl) T.len (by rfl) T.set (pv 0)) (pe_callB call_len_seq (by rfl) T.len PySem.boot_len (pa_cons (pv 0) pa_nil)) (nomark _)))), ?_⟩)
  · obtain ⟨a, l, rfl, _⟩ := h
    rfl
  · obtain ⟨a, l, rfl, hl, q⟩ := h
    have e : (l.map nV) = (l.map fun (n : Nat) => (n : Int)).map V.int := by
      rw [List.map_map]
      rfl
    have ln : (l.map nV).length = l.length := List.length_map ..
    unfold fits at q
    refine ⟨_, rfl, a, _, rfl, .inl hl, _, _, rfl, rfl, _, rfl, ?_⟩
    rw [ln]
    by_cases c1 : 1 ≤ l.length
    · refine if_false_of (decide_eq_false (by omega)) ?_
      rw [decide_eq_true c1, Bool.true_and] at q
      refine ⟨_, rfl, a, _, rfl, .inl hl, _, _, rfl, rfl, _, rfl, ?_⟩
      rw [ln]
      by_cases c2 : l.length ≤ 6
      · refine if_false_of (decide_eq_false (by omega)) ?_
        rw [decide_eq_true c2, Bool.true_and] at q
        refine ⟨_, rfl, a, l.map (fun (n : Nat) => (n : Int)), rfl, by rw [← e]; exact hl, by rw [List.length_map]; omega, _, rfl, a, _, rfl, .inl hl, rfl, ?_⟩
        have z := ded_len (l.map fun (n : Nat) => (n : Int))
        rw [ln]
        have z2 : decide (V.int ((ded (l.map fun (n : Nat) => (n : Int))).length : Nat) = V.int (l.length : Nat)) = decide l.Nodup := by
          rw [← decide_eq_decide.mpr (nodup_cast l), ← z, List.length_map]
          exact decide_eq_decide.mpr ⟨fun h => V.int.inj h, fun h => congrArg V.int h⟩
        rw [z2]
        exact q
      · refine if_true_of (decide_eq_true (by omega)) ?_
        rw [decide_eq_false c2] at q
        exact q
    · refine if_true_of (decide_eq_true (by omega)) (iteT ?_)
      rw [decide_eq_false c1] at q
      exact q
/-! ### sent_place -/
theorem pF_tongue {t : Nat} {dt db : Addr} : (pF t dt db).lookup ("tongue" : Str) = some (nV t) := lk_here
theorem pF_texts {t : Nat} {dt db : Addr} : (pF t dt db).lookup ("texts" : Str) = some (.ref dt) := (lk_past (by decide +kernel)).trans lk_here
theorem pF_bases {t : Nat} {dt db : Addr} : (pF t dt db).lookup ("bases" : Str) = some (.ref db) := (lk_past (by decide +kernel)).trans ((lk_past (by decide +kernel)).trans lk_here)
def spPlace (CP : Addr) : Sp := fun vs H Q _ => ∃ (ro : Addr → Rl) (i : Nat) (pa : Addr) (p : Ut14.Package) (k : Nat) (m : Ut14.Item), vs = [.ref pa, nV k] ∧ PkAt CP ro H i pa p ∧ (p.items.find? fun y => y.key == k) = some m ∧
  ∀ b, H b = none → Q (.ref b) (upd H b (.tup ((pl p.tongue k m.text).map kV)))
theorem scPlace : FnScope ["package", "key"] ["package", "key"] (defScope sPlace) := ⟨rfl, rfl, rfl, by decide +kernel, rfl, by decide +kernel, by decide +kernel⟩
theorem ok_place {f : Addr} {fd : FuncData} (F : Fun K "sent_place" "sent_place" sPlace f fd) (T : Txt K mg C CP) : FnOk P w K mg base CX0 1 f fd ["package", "key"] (spPlace CP) := by
  refine F.ok scPlace (fun vs H Q E h => ?_) (fun cdv A outer s H vs Q E hr h => ⟨_, pss_one (ps_ret (pe_tup (pa_cons (pe_fld (pv 0) rfl) (pa_cons (pv 1) (pa_cons (pe_dget (hu_of hr) (pe_fld (pv 0) rfl) (pv 1) (fun _ _ => rfl)) pa_nil))))), ?_⟩)
  · obtain ⟨ro, i, pa, p, k, m, rfl, _⟩ := h
    rfl
  · obtain ⟨ro, i, pa, p, k, m, rfl, ⟨dx, dt, db, e1, _, e3, _⟩, hf, q⟩ := h
    refine ⟨_, rfl, pa, CP, dx, _, _, rfl, e1, T.clP, T.nTg, pF_tongue, _, rfl, _, rfl, pa, CP, dx, _, _, rfl, e1, T.clP, T.nTx, pF_texts, _, rfl, dt, nV m.text, rfl, (by have z := DGet.k (k := nK k) e3; rw [val_texts, hf] at z; exact z), by show 3 ≤ sizeLine; decide, fun b hb => q b hb⟩
/-! ### Package.__init__ -/
theorem put_here {f : Str} {v x : V} {r : List (Str × V)} : putF f v ((f, x) :: r) = (f, v) :: r := if_pos rfl
theorem put_past {f g : Str} {v x : V} {r : List (Str × V)} (h : ¬ g = f) : putF f v ((g, x) :: r) = (g, x) :: putF f v r := if_neg h
def spInitP (CP : Addr) : Sp := fun vs H Q _ => ∃ (p dx dt db : Addr) (t : Nat), vs = [.ref p, nV t, .ref dt, .ref db] ∧ H p = some (.ins CP dx []) ∧ Q .non (upd H p (.ins CP dx (pF t dt db)))
theorem scInitP : FnScope ["self", "tongue", "texts", "bases"] ["self", "tongue", "texts", "bases"] (defScope sInitP) := ⟨rfl, rfl, rfl, by decide +kernel, rfl, by decide +kernel, by decide +kernel⟩
theorem ok_initP {f : Addr} {fd : FuncData} (F : Fun K "__init__" "Package.__init__" sInitP f fd) (T : Txt K mg C CP) : FnOk P w K mg base CX0 1 f fd ["self", "tongue", "texts", "bases"] (spInitP CP) := by
  refine F.ok scInitP (fun vs H Q E h => ?_) (fun cdv A outer s H vs Q E hr h => ⟨_, pss_cons (ps_fld (pv 0) (pv 1) rfl) (pss_cons (ps_fld (pv 0) (pv 2) rfl) (pss_one (ps_fld (pv 0) (pv 3) rfl))), ?_⟩)
  · obtain ⟨p, dx, dt, db, t, rfl, _⟩ := h
    rfl
  · obtain ⟨p, dx, dt, db, t, rfl, hp, q⟩ := h
    refine ⟨_, rfl, _, rfl, p, CP, dx, [], rfl, hp, T.clP, T.nTg, (by show 0 < 1000; decide), ?_⟩
    refine ⟨_, rfl, _, rfl, p, CP, dx, _, rfl, upd_same, T.clP, T.nTx, (by show 1 < 1000; decide), ?_⟩
    refine ⟨_, rfl, _, rfl, p, CP, dx, _, rfl, upd_same, T.clP, T.nBs, (by show 2 < 1000; decide), ?_⟩
    have e : putF "bases" (.ref db) (putF "texts" (.ref dt) (putF "tongue" (nV t) [])) = pF t dt db := by
      rw [show putF "tongue" (nV t) [] = [(("tongue" : Str), nV t)] from rfl, put_past (by decide +kernel), put_past (by decide +kernel)]
      rw [show putF "texts" (.ref dt) [] = [(("texts" : Str), V.ref dt)] from rfl, put_past (by decide +kernel)]
      rfl
    rw [upd_upd, upd_upd, e]
    exact q
end
end Tof

/-! ### d.pop(k): a dict whose keys are tuples, the key is there -/
namespace Tof.Pop
open PySem PySem.Spec PySem.W PySem.Calls PyProof.V PyProof.Rows
section
variable {Ky : Type} [DecidableEq Ky] {prog : Program} {w : World} {kn : HeapKind prog w Ky}
theorem pop_there {da ka : Addr} {k : Ky} (nm : (da == sysModules) = false) :
    MeetsIn prog w (Builtin.«dict.pop» ⟨[.ref da, .ref ka], []⟩)
      (fun A R s => ∃ (tab : List (Ky × Addr × Value)) (pr : Addr × Value), kn.room A.in1 ∧ kn.is s.heap k ka ∧
        s.heap.DictOfH kn da tab ∧ tab.length ≤ sizeLine ∧ atKey tab k = some pr ∧
        ∀ g' u, g'.DictOfH kn da (DT.dropH tab k) → Heap.SameBut da s.heap g' → R (.ok (.ret pr.2)) { s with heap := g', toks := u }) :=
  .of_wp fun A R s ⟨tab, pr, ro, isk, dic, few, there, next⟩ => by
    obtain ⟨ob, en, pn, h1, h2, h3, h4, h5, h6⟩ := id dic
    have sz : en.size = tab.length := size_of_entries h4
    have np : (keyPart (Value.ref ka)).isSome = false := rfl
    unfold Builtin.«dict.pop»
    refine wpAny_bind ?_; unfold Builtin.Dict.keyAndDefault
    refine wpAny_bind (wpAny_notOrdered_dict dic.typeIs ?_)
    show wpAny _ _ (pure (da, Value.ref ka, none)) _ _ s
    refine wpAny_pure ?_
    simp only [np, Bool.false_eq_true, if_false]
    refine wpAny_bind (wpAny_dictEntries h1 h3 (wpAny_bind (wpAny_pure ?_)))
    have full : en.isEmpty = false := by
      cases c : en.isEmpty with
      | false => rfl
      | true =>
        have z : en.size = 0 := by simpa using c
        have z : tab = [] := List.length_eq_zero_iff.mp (by omega)
        rw [z] at there
        cases there
    simp only [full, Bool.false_eq_true, if_false]
    refine wpAny_bind (DT.takeH ro isk dic few (fun no => ?_) fun q e hq he g' hg hs => ?_)
    · rw [there] at no
      cases no
    · rw [there] at hq
      cases hq
      simp only [Bool.false_eq_true, if_false, Option.isNone_some]
      refine wpAny_bind (wpAny_letGo (wpAny_pure ⟨e.val, rfl, ?_⟩))
      rw [he]
      exact next g' _ hg hs
end
end Tof.Pop
namespace Tof
open PySem PySem.Spec PyProof.Rows L2 L2.DX
section
variable {X : Cx}
def rPopT1 : V → List V → Hp → VK → Prop := fun x xs H Q => ∃ (a : Addr) (kvs : List (List L2.Key × V)) (k : List L2.Key) (b : Addr) (v : V),
  x = .ref a ∧ xs = [.ref b] ∧ H a = some (.dT kvs) ∧ H b = some (.tup (k.map kV)) ∧ valV kvs k = some v ∧ Q v (upd H a (.dT (dropK kvs k)))
theorem mt_popT1 (hu : X.A.units + 1 < cLine) : MtR X "dict.pop" rPopT1 := by
  intro pins s σ H self args v us Q I rx rxs h
  obtain ⟨a, kvs, k, b, v0, rfl, rfl, ha, hb, hv, q⟩ := h
  cases rx
  obtain ⟨u1, rfl, r1⟩ := vals1 rxs
  cases r1
  obtain ⟨z, nm, tab, rel, dd⟩ := dt_of I.hok ha
  have few : tab.length ≤ sizeLine := by
    rw [← Paired.length rel]
    exact z
  have r := rel.val k
  rw [hv] at r
  obtain ⟨pr, hp, rv⟩ : ∃ pr, PySem.atKey tab k = some pr ∧ RelV v0 pr.2 := by
    cases e : PySem.atKey tab k with
    | none =>
      rw [e] at r
      exact absurd (show False from r) id
    | some pr =>
      rw [e] at r
      exact ⟨pr, rfl, r⟩
  refine call_meetsIn PySem.F.slot_dict_pop dd.typeIs PySem.F.entry_dict_pop (PySem.F.args_dict_pop_2 _ _) (Pop.pop_there (kn := tupleKind (mixKind X.prog X.w)) (k := k) nm) ?_
  refine ⟨tab, pr, tupleKind_room_in1 hu, key_of I.hok hb, dd, few, hp, fun g' tk dd' hs => ?_⟩
  obtain ⟨o, es, ep, w1, w2, w3, w4, _, w5⟩ := dd'
  have I2 : Inv X pins σ (upd H a (.dT (dropK kvs k))) { s with heap := g', toks := tk } := by
    refine d_write I (by rw [ha]; exact True.intro) hs ⟨o, w1⟩ ⟨Nat.le_trans (dropK_le kvs k) z, nm, _, (KT_drop k rel).keeps (fun c ys ec => ?_), o, es, ep, w1, w2, w3, w4, w5⟩
    rw [upd_ne (ne_of ec ha (fun z => nomatch z))]
    exact ec
  show EP X pins σ Q pr.2 _
  exact ⟨v0, _, I2, rv, q⟩
end
end Tof

namespace Tof
open PySem PySem.Spec PyProof.Rows L2
abbrev sSend : Stmt := inClass cRc 9
section
variable {C CP : Addr} {L : Lay} {ro ro' : Addr → Rl} {H : Hp} {g : Ut14.House}
/-- new roles for what had none -/
theorem At.rerole (h : At C CP L ro H g) (e : ∀ b, ro b ≠ .oth → ro' b = ro b) (f : ∀ b, H b = none → ro' b = .oth) : At C CP L ro' H g where
  fresh := f
  hA := h.hA
  rA := by rw [e _ (by rw [h.rA]; exact nofun)]; exact h.rA
  hS := h.hS
  rS := by rw [e _ (by rw [h.rS]; exact nofun)]; exact h.rS
  hW := h.hW
  rW := by rw [e _ (by rw [h.rW]; exact nofun)]; exact h.rW
  hP := by
    obtain ⟨pas, e1, e2, e3⟩ := h.hP
    refine ⟨pas, e1, e2, fun i p q => ?_⟩
    obtain ⟨pa, q1, dx, dt, db, a1, a2, a3, a4, a5, a6⟩ := e3 i p q
    exact ⟨pa, q1, dx, dt, db, a1, by rw [e _ (by rw [a2]; exact nofun)]; exact a2, a3, by rw [e _ (by rw [a4]; exact nofun)]; exact a4, a5, by rw [e _ (by rw [a6]; exact nofun)]; exact a6⟩
  rP := by rw [e _ (by rw [h.rP]; exact nofun)]; exact h.rP
  hU := h.hU
  rU := by rw [e _ (by rw [h.rU]; exact nofun)]; exact h.rU
  hR := by
    obtain ⟨rds, e1, e2, e3⟩ := h.hR
    refine ⟨rds, e1, e2, fun i p q => ?_⟩
    obtain ⟨rd, q1, es, a1, a2, a3⟩ := e3 i p q
    exact ⟨rd, q1, es, a1, by rw [e _ (by rw [a2]; exact nofun)]; exact a2, a3⟩
  rR := by rw [e _ (by rw [h.rR]; exact nofun)]; exact h.rR
/-- one package more -/
theorem At.addPk (h : At C CP L ro H g) {pa : Addr} {p : Ut14.Package} (hn : PkAt CP ro H g.packages.length pa p) {xs : List V} (hx : H L.lP = some (.lst xs)) (gv : Nat) :
    At C CP L ro (upd H L.lP (.lst (xs ++ [.ref pa]))) { g with packages := g.packages ++ [p], given := gv } := by
  have k : Kp ro .lp H (upd H L.lP (.lst (xs ++ [.ref pa]))) := Kp.upd hx trivial h.rP
  exact {
    fresh := fun b e => h.fresh b (k.fresh b e)
    hA := k.all _ _ h.hA (by rw [h.rA]; exact nofun)
    rA := h.rA
    hS := let ⟨s, e1, e2⟩ := h.hS; ⟨s, k.all _ _ e1 (by rw [h.rS]; exact nofun), e2⟩
    rS := h.rS
    hW := k.all _ _ h.hW (by rw [h.rW]; exact nofun)
    rW := h.rW
    hP := by
      obtain ⟨pas, e1, e2, e3⟩ := h.hP
      rw [hx] at e1
      have e1 := HO.lst.inj (Option.some.inj e1)
      subst e1
      refine ⟨pas ++ [pa], by rw [upd_same, List.map_append]; rfl, by simp [e2], fun i q hq => ?_⟩
      rw [List.getElem?_append] at hq
      by_cases c : i < g.packages.length
      · rw [if_pos c] at hq
        obtain ⟨pb, q1, q2⟩ := e3 i q hq
        exact ⟨pb, by rw [List.getElem?_append, if_pos (by rw [e2]; exact c)]; exact q1, q2.keep k nofun nofun⟩
      · rw [if_neg c] at hq
        have c0 : i - g.packages.length = 0 := by
          cases d : i - g.packages.length with
          | zero => rfl
          | succ n => rw [d] at hq; cases hq
        rw [c0] at hq
        have hq := Option.some.inj hq
        subst hq
        have ei : i = g.packages.length := by omega
        subst ei
        refine ⟨pa, ?_, hn.keep k nofun nofun⟩
        rw [List.getElem?_append, if_neg (by omega), e2, Nat.sub_self]
        rfl
    rP := h.rP
    hU := k.all _ _ h.hU (by rw [h.rU]; exact nofun)
    rU := h.rU
    hR := h.rels k nofun nofun
    rR := h.rR }
end
/-! ### what is sent -/
theorem mapM_some {α β : Type} (f : α → Option β) (h : α → β) : ∀ l : List α, (∀ k ∈ l, f k = some (h k)) → l.mapM f = some (l.map h)
  | [], _ => rfl
  | a :: l, e => by
    rw [List.mapM_cons, e a (List.mem_cons_self ..), mapM_some f h l fun k hk => e k (List.mem_cons_of_mem _ hk)]
    rfl
theorem mapM_none {α β : Type} (f : α → Option β) : ∀ l : List α, (∃ k ∈ l, f k = none) → l.mapM f = none
  | [], e => by
    obtain ⟨k, hk, _⟩ := e
    cases hk
  | a :: l, e => by
    rw [List.mapM_cons]
    cases c : f a with
    | none => rfl
    | some b =>
      have : l.mapM f = none := mapM_none f l (by
        obtain ⟨k, hk, q⟩ := e
        rcases List.mem_cons.mp hk with z | z
        · rw [z, c] at q
          cases q
        · exact ⟨k, z, q⟩)
      rw [this]
      rfl
def itemOf (g : Ut14.House) (t k : Nat) : Ut14.Item := ⟨k, (Ut14.textOf g k).getD 0, Ut14.says g t k ((Ut14.textOf g k).getD 0)⟩
theorem sent_some {g : Ut14.House} {t : Nat} {l : List Nat} (h : ∀ k ∈ l, (Ut14.textOf g k).isSome = true) : (l.mapM fun k => (Ut14.textOf g k).map fun x => (⟨k, x, Ut14.says g t k x⟩ : Ut14.Item)) = some (l.map (itemOf g t)) :=
  mapM_some _ _ l fun k hk => by
    obtain ⟨x, e⟩ := Option.isSome_iff_exists.mp (h k hk)
    unfold itemOf
    rw [e]
    rfl
theorem sent_none {g : Ut14.House} {t : Nat} {l : List Nat} (h : ∃ k ∈ l, Ut14.textOf g k = none) : (l.mapM fun k => (Ut14.textOf g k).map fun x => (⟨k, x, Ut14.says g t k x⟩ : Ut14.Item)) = none :=
  mapM_none _ l (by
    obtain ⟨k, hk, e⟩ := h
    exact ⟨k, hk, by rw [e]; rfl⟩)
theorem take_more {α : Type} {l : List α} {i : Nat} {x : α} (h : l[i]? = some x) : l.take (i + 1) = l.take i ++ [x] := by
  rw [List.take_add_one, h]
  rfl
theorem not_mem_take {l : List Nat} (hn : l.Nodup) {i k : Nat} (h : l[i]? = some k) : ¬ k ∈ l.take i := fun m => by
  obtain ⟨j, hj⟩ := List.mem_iff_getElem?.mp m
  rw [List.getElem?_take] at hj
  by_cases c : j < i
  · rw [if_pos c] at hj
    have := nd_ix hn hj h
    omega
  · rw [if_neg c] at hj
    cases hj
theorem val_new {l : List Nat} (f : Nat → L2.Key × V) (hf : ∀ k, (f k).1 = nK k) {k : Nat} (h : ¬ k ∈ l) : valV (l.map f) (nK k) = none := by
  rw [valV_of f (fun y => y == k) (nK k) (fun y => by rw [hf]; exact nK_eq ..)]
  have e : l.find? (fun y => y == k) = none := List.find?_eq_none.mpr fun y hy z => h (by rw [← eq_of_beq z]; exact hy)
  rw [e]
  rfl
theorem nat_at {l : List Nat} {i : Nat} {y : V} (h : (l.map nV)[i]? = some y) : ∃ k, l[i]? = some k ∧ y = nV k := by
  rw [List.getElem?_map] at h
  cases e : l[i]? with
  | none =>
    rw [e] at h
    cases h
  | some z =>
    rw [e] at h
    exact ⟨z, rfl, (Option.some.inj h).symm⟩
section
variable {P : Program} {w : World} {K : PySem.W.Frag} {mg : Str → Option Value} {base : Heap} {C CP : Addr}
/-! ### send_package -/
def spSend (K : PySem.W.Frag) (C CP : Addr) : Sp := fun vs H Q _ => ∃ (L : Lay) (ro : Addr → Rl) (g : Ut14.House) (N t : Nat) (b : Addr) (l : List Nat), vs = [.ref L.a, nV t, .ref b] ∧ SqL K H b (l.map nV) ∧ At C CP L ro H g ∧ Ok N g ∧ Ans C CP L ro H g (.send t l) Q
theorem scSend : FnScope ["self", "tongue", "sent", "key", "texts", "bases"] ["self", "tongue", "sent"] (defScope sSend) := ⟨rfl, rfl, rfl, by decide +kernel, rfl, by decide +kernel, by decide +kernel⟩
theorem ok_send {f fI : Addr} {fd fdI : FuncData} (F : Fun K "send_package" "Records.send_package" sSend f fd) (T : Txt K mg C CP) (GF : GCal P w K mg base "fits_a_package" 1 ["chosen"] (spFits K)) (M2 : MCal P w K mg base C "work_at" 1 ["self", "place"] (spWorkAt C CP))
    (MI : Mk K CP fI) (FI : FnOk P w K mg base CX0 1 fI fdI ["self", "tongue", "texts", "bases"] (spInitP CP)) (bI : Binds K fdI ["self", "tongue", "texts", "bases"] []) : FnOk P w K mg base CX0 3 f fd ["self", "tongue", "sent"] (spSend K C CP) := by
  obtain ⟨f1, fd1, g1, k1, F1, b1⟩ := GF
  obtain ⟨f2, fd2, m2, F2, b2⟩ := M2
  refine F.ok scSend (fun vs H Q E h => ?_) (fun cdv A outer s H vs Q E hr h => ⟨_, pss_cons
    (ps_if (PW.pt (pw_or (pt_cmpR op_gt (pv 1) (pe_gi T.LAST_TONGUE) (nomark _)) (pw_or1 (pt_not (pt_val (pe_call F1 (hr.mono (by decide)) rfl g1 k1 b1 .nil pass0 (pa_cons (pv 2) pa_nil))))))) (pss_one (ps_ret (pe_lst (pa_cons (pe_gi T.NOT_AS_TOLD) pa_nil)))) pss_nil)
    (pss_cons (ps_for PassesOwn.never rfl (pi_list (pv 2)) (pg_name (i := 3) scSend.nd rfl (Or.inl rfl))
      (pss_one (ps_if (pt_cmp (pc_dnotin (hu_of hr) (pv 3) (pe_fld (pv 0) rfl))) (pss_one (ps_ret (pe_lst (pa_cons (pe_gi T.MISSING) pa_nil)))) pss_nil)))
    (pss_cons (ps_if (pt_cmpR op_ge (pe_callB call_len_seq (by rfl) T.len PySem.boot_len (pa_cons (pe_fld (pv 0) rfl) pa_nil)) (pe_gi T.MOST_PACKAGES) (nomark _)) (pss_one (ps_ret (pe_lst (pa_cons (pe_gi T.FULL) pa_nil)))) pss_nil)
    (pss_cons (ps_set (i := 4) scSend.nd rfl (Or.inl rfl) pe_dnewK)
    (pss_cons (ps_set (i := 5) scSend.nd rfl (Or.inl rfl) pe_dnewK)
    (pss_cons (ps_for PassesOwn.never rfl (pi_list (pv 2)) (pg_name (i := 3) scSend.nd rfl (Or.inl rfl))
      (pss_cons (ps_dput (hu_of hr) (pv 4) (pv 3) (pe_dget (hu_of hr) (pe_fld (pv 0) rfl) (pv 3) (fun _ _ => rfl)) rfl)
      (pss_one (ps_dput (hu_of hr) (pv 5) (pv 3) (pe_meth (pv 0) T.cl m2 F2 (hr.mono (by decide)) b2 .nil pass0 (pa_cons (pe_tup (pa_cons (pv 1) (pa_cons (pv 3) (pa_cons (pe_dget (hu_of hr) (pv 4) (pv 3) (fun _ _ => rfl)) pa_nil)))) pa_nil)) rfl))))
    (pss_cons (ps_expr (pe_bm PySem.F.plainAttrs_list PySem.F.slot_list_append PySem.F.type_list_append mt_append (pe_fld (pv 0) rfl) (pa_cons (pe_make MI FI hr rfl T.gPk bI .nil pass0 (pa_cons (pv 1) (pa_cons (pv 4) (pa_cons (pv 5) pa_nil)))) pa_nil)))
    (pss_one (ps_ret (pe_lst (pa_cons (pe_op op_sub (pe_callB call_len_seq (by rfl) T.len PySem.boot_len (pa_cons (pe_fld (pv 0) rfl) pa_nil)) pe_int) pa_nil)))))))))), ?_⟩)
  · obtain ⟨L, ro, g, N, t, b, l, rfl, _⟩ := h
    rfl
  · obtain ⟨L, ro, g, N, t, b, l, rfl, hb, hA, hO, q⟩ := h
    obtain ⟨src, hs, hperm⟩ := hA.hS
    obtain ⟨pas, hp, hpl, _⟩ := hA.hP
    have hv : ∀ k, valV (src.map eKV) (nK k) = (Ut14.textOf g k).map nV := val_src hperm hO.srt
    have one : ∀ (z : Int), Ut14.step g (.send t l) = (g, [z]) → 1 ≤ sizeLine ∧ ∀ p, H p = none → Q (.ref p) (upd H p (.lst [.int z])) := fun z e => ⟨by decide, fun p hp => q.no e hA (Same.refl H) p hp⟩
    refine ⟨_, rfl, _, _, rfl, rfl, _, rfl, ?_⟩
    by_cases c1 : 3 < t
    · exact if_true_of (decide_eq_true (by omega)) (iteT (one _ (if_pos (.inl c1))))
    refine if_false_of (decide_eq_false (by omega)) ?_
    refine ⟨_, rfl, b, l, rfl, hb, _, rfl, ?_⟩
    cases c2 : fits l with
    | false =>
      refine if_true_of (by rfl) (one _ (if_pos ?_))
      by_cases d1 : l = []
      · exact .inr (.inl d1)
      by_cases d2 : 6 < l.length
      · exact .inr (.inr (.inl d2))
      refine .inr (.inr (.inr ((twice_iff l).mpr fun d3 => ?_)))
      have d4 : 1 ≤ l.length := by
        cases l with
        | nil => exact absurd rfl d1
        | cons _ _ => exact Nat.succ_le_succ (Nat.zero_le _)
      unfold fits at c2
      rw [decide_eq_true d4, decide_eq_true (show l.length ≤ 6 by omega), decide_eq_true d3] at c2
      cases c2
    | true =>
      refine if_false_of (by rfl) ?_
      unfold fits at c2
      rw [Bool.and_eq_true, Bool.and_eq_true, decide_eq_true_iff, decide_eq_true_iff, decide_eq_true_iff] at c2
      obtain ⟨d1, d2, nd⟩ := c2
      have n1 : ¬ (Ut14.TONGUES ≤ t ∨ l = [] ∨ 6 < l.length ∨ l.eraseDups.length ≠ l.length) := by
        rintro (z | z | z | z)
        · exact c1 z
        · rw [z] at d1
          exact absurd d1 (by decide)
        · omega
        · exact (twice_iff l).mp z nd
      -- the first loop: all keys are there
      refine ⟨_, rfl, b, rfl, ⟨_, hb⟩, for_list (K := K) (a := b) (xs := l.map nV) (fun i σ H' => ∃ v : Option V, σ = [some (.ref L.a), some (nV t), some (.ref b), v, none, none] ∧ H = H' ∧ ∀ k ∈ l.take i, (Ut14.textOf g k).isSome = true)
        ⟨none, rfl, rfl, fun k hk => by cases hk⟩ (fun i σ H' _ ⟨_, _, e, _⟩ => by rw [← e]; exact hb) ?_ ?_⟩
      · rintro i y σ H' hi ⟨v, rfl, rfl, al⟩
        obtain ⟨k, hk, rfl⟩ := nat_at hi
        refine ⟨_, rfl, _, rfl, L.a, C, L.dx, _, _, rfl, hA.hA, T.cl, T.nS, rF_source, L.dS, _, rfl, DGet.k (k := nK k) hs, _, rfl, ?_⟩
        rw [hv]
        cases e : Ut14.textOf g k with
        | none =>
          refine if_true_of (by rfl) (one _ ((if_neg n1).trans ?_))
          rw [sent_none ⟨k, List.mem_of_getElem? hk, e⟩]
        | some y =>
          refine if_false_of (by rfl) ⟨some (nV k), rfl, rfl, ?_⟩
          rw [take_more hk]
          intro j hj
          rcases List.mem_append.mp hj with z | z
          · exact al j z
          · rw [List.mem_singleton.mp z, e]
            rfl
      · rintro σ H' ⟨v, rfl, rfl, al⟩
        rw [List.length_map, List.take_length] at al
        have st : Ut14.step g (.send t l) = if 10 ≤ g.given then (g, [-5]) else ({ g with packages := g.packages ++ [⟨g.given, t, l.map (itemOf g t)⟩], given := g.given + 1 }, Ut14.ints [g.given]) := by
          refine (if_neg n1).trans ?_
          rw [sent_some al]
        refine ⟨_, rfl, L.a, C, L.dx, _, _, rfl, hA.hA, T.cl, T.nP, rF_packages, L.lP, _, rfl, .inl (SqL.of hp), _, _, rfl, rfl, _, rfl, ?_⟩
        have gl : (pas.map V.ref).length = g.given := by rw [List.length_map, hpl, hO.given]
        by_cases c3 : 10 ≤ g.given
        · exact if_true_of (decide_eq_true (by rw [gl]; omega)) (one _ (st.trans (if_pos c3)))
        refine if_false_of (decide_eq_false (by rw [gl]; omega)) ?_
        intro dt hdt
        intro db hdb
        have ndb : H db = none := upd_free hdb
        have nn : dt ≠ db := fun z => by
          rw [z, upd_same] at hdb
          cases hdb
        -- the second loop
        refine ⟨_, rfl, b, rfl, ⟨_, ((upd_new hdt).trans (upd_new hdb)).seq hb⟩, for_list (K := K) (a := b) (xs := l.map nV) (fun i σ H' => ∃ v : Option V, σ = [some (.ref L.a), some (nV t), some (.ref b), v, some (.ref dt), some (.ref db)] ∧ Same H H' ∧
            H' dt = some (.dK ((l.take i).map fun k => tKV (itemOf g t k))) ∧ H' db = some (.dK ((l.take i).map fun k => bKV (itemOf g t k))))
          ⟨v, rfl, (upd_new hdt).trans (upd_new hdb), by rw [upd_ne nn]; exact upd_same, upd_same⟩ (fun i σ H' _ ⟨_, _, s5, _⟩ => s5.seq hb) ?_ ?_⟩
        · rintro i y σ H' hi ⟨v, rfl, s5, h1, h2⟩
          obtain ⟨k, hk, rfl⟩ := nat_at hi
          have hlt : i < l.length := (List.getElem?_eq_some_iff.mp hk).1
          have nk := not_mem_take nd hk
          have e1 := val_new (fun k => tKV (itemOf g t k)) (fun _ => rfl) nk
          have e2 := val_new (fun k => bKV (itemOf g t k)) (fun _ => rfl) nk
          obtain ⟨x, hx⟩ := Option.isSome_iff_exists.mp (al k (List.mem_of_getElem? hk))
          have ex : (itemOf g t k).text = x := by unfold itemOf; rw [hx]; rfl
          have hA5 := hA.same s5
          have szl : ∀ f : Nat → L2.Key × V, ((l.take i).map f).length < sizeLine := fun f => small1000 (by rw [List.length_map, List.length_take]; omega)
          refine ⟨_, rfl, L.a, C, L.dx, _, _, rfl, hA5.hA, T.cl, T.nS, rF_source, _, rfl, L.dS, nV x, rfl, (by have z := DGet.k (k := nK k) (s5 _ _ hs); rw [hv, hx] at z; exact z), _, rfl, _, rfl, dt, _, rfl, DPut.k (k := nK k) h1 (szl _), ?_⟩
          rw [putK_new _ e1]
          have s6 : Same H (upd H' dt (.dK (((l.take i).map fun k => tKV (itemOf g t k)) ++ [(nK k, nV x)]))) := fun c o e => by
            rw [upd_ne (ne_of_none e hdt)]
            exact s5 c o e
          have e3 : ((l.take i).map fun k => tKV (itemOf g t k)) ++ [(nK k, nV x)] = (l.take (i + 1)).map fun k => tKV (itemOf g t k) := by
            rw [take_more hk, List.map_append]
            unfold tKV
            rw [← ex]
            rfl
          rw [e3] at s6 ⊢
          have hd2 : upd H' dt (.dK ((l.take (i + 1)).map fun k => tKV (itemOf g t k))) db = some (.dK ((l.take i).map fun k => bKV (itemOf g t k))) := by
            rw [upd_ne nn.symm]
            exact h2
          have hg : valV ((l.take (i + 1)).map fun k => tKV (itemOf g t k)) (nK k) = some (nV x) := by
            rw [← e3, valV_snoc _ _ _ _ e1, if_pos rfl]
          have hA6 := hA.same s6
          refine ⟨_, rfl, L.a, L.dx, _, rfl, hA6.hA, rF_none (by decide +kernel), _, rfl, _, rfl, _, rfl, _, rfl, dt, nV x, rfl, (by have z := DGet.k (k := nK k) (upd_same (H := H') (a := dt) (o := .dK ((l.take (i + 1)).map fun k => tKV (itemOf g t k)))); rw [hg] at z; exact z), by show 3 ≤ sizeLine; decide, fun b3 hb3 => ?_⟩
          refine ⟨L, ro, g, b3, t, k, x, rfl, hA6.new hb3, upd_same, ?_⟩
          have hd3 : upd (upd H' dt (.dK ((l.take (i + 1)).map fun k => tKV (itemOf g t k)))) b3 (.tup [nV t, nV k, nV x]) db = some (.dK ((l.take i).map fun k => bKV (itemOf g t k))) := by
            rw [upd_ne (ne_of_none hd2 hb3)]
            exact hd2
          refine ⟨_, rfl, _, rfl, db, _, rfl, DPut.k (k := nK k) hd3 (szl _), ?_⟩
          rw [putK_new _ e2]
          refine ⟨some (nV k), rfl, fun c o e => ?_, ?_, ?_⟩
          · rw [upd_ne (ne_of_none e ndb)]
            exact upd_new hb3 c o (s6 c o e)
          · rw [upd_ne nn, upd_ne (ne_of_none upd_same hb3)]
            exact upd_same
          · have eb : bKV (itemOf g t k) = (nK k, nV (Ut14.says g t k x)) := by
              unfold bKV itemOf
              rw [hx]
              rfl
            rw [upd_same, take_more hk, List.map_append, List.map_singleton, eb]
        · rintro σ H' ⟨v, rfl, s5, h1, h2⟩
          rw [List.length_map, List.take_length] at h1 h2
          have hA5 := hA.same s5
          refine ⟨_, rfl, L.a, C, L.dx, _, _, rfl, hA5.hA, T.cl, T.nP, rF_packages, .inl ⟨rfl, _, SqL.of (s5 _ _ hp)⟩, ?_⟩
          refine ⟨_, rfl, _, rfl, _, rfl, ?_⟩
          intro x dx nx ndx ne
          refine ⟨x, dx, dt, db, t, rfl, upd_same, rfl, ?_⟩
          rw [upd_upd]
          have s6 : Same H' (upd (upd H' dx (.own x)) x (.ins CP dx (pF t dt db))) := fun c o e => by
            rw [upd_ne (ne_of_none e nx), upd_ne (ne_of_none e ndx)]
            exact e
          have s7 := s5.trans s6
          have hp7 := s7 _ _ hp
          refine ⟨L.lP, _, .ref x, rfl, rfl, hp7, small1000 (by rw [gl]; omega), ?_⟩
          -- the roles behind
          have H7 : At C CP L ro (upd (upd H' dx (.own x)) x (.ins CP dx (pF t dt db))) g := hA.same s7
          have fx : H x = none := s5.free nx
          have ox : ro x = .oth := hA.fresh x fx
          have od : ro dt = .oth := hA.fresh dt hdt
          have ob : ro db = .oth := hA.fresh db ndb
          let ro' : Addr → Rl := fun c => if c = db then .bs g.packages.length else if c = x ∨ c = dt then .own else ro c
          have r1 : ∀ c, ro c ≠ .oth → ro' c = ro c := fun c hc => by
            show (if c = db then Rl.bs g.packages.length else if c = x ∨ c = dt then .own else ro c) = ro c
            rw [if_neg (fun z => hc (by rw [z]; exact ob)), if_neg (fun z => hc (by rcases z with z | z <;> rw [z] <;> assumption))]
          have r2 : ∀ c, H c ≠ none → ro' c = ro c := fun c hc => by
            show (if c = db then Rl.bs g.packages.length else if c = x ∨ c = dt then .own else ro c) = ro c
            rw [if_neg (fun z => hc (by rw [z]; exact ndb)), if_neg (fun z => hc (by rcases z with z | z <;> rw [z] <;> assumption))]
          have h1' := s6 _ _ h1
          have h2' := s6 _ _ h2
          have xdb : x ≠ db := fun z => by rw [z, h2] at nx; cases nx
          have xdt : x ≠ dt := fun z => by rw [z, h1] at nx; cases nx
          have r3 : ro' db = .bs g.packages.length := if_pos rfl
          have r4 : ro' x = .own := (if_neg xdb).trans (if_pos (.inl rfl))
          have r5 : ro' dt = .own := (if_neg nn).trans (if_pos (.inr rfl))
          have H8 : At C CP L ro' (upd (upd H' dx (.own x)) x (.ins CP dx (pF t dt db))) g := H7.rerole r1 fun c hc => by
            show (if c = db then Rl.bs g.packages.length else if c = x ∨ c = dt then .own else ro c) = _
            rw [if_neg (fun z => by rw [z, h2'] at hc; cases hc), if_neg (fun z => by
              rcases z with z | z
              · rw [z, upd_same] at hc
                cases hc
              · rw [z, h1'] at hc
                cases hc)]
            exact H7.fresh c hc
          have pk : PkAt CP ro' (upd (upd H' dx (.own x)) x (.ins CP dx (pF t dt db))) g.packages.length x ⟨g.given, t, l.map (itemOf g t)⟩ := ⟨dx, dt, db, upd_same, r4, by rw [List.map_map]; exact h1', r5, by rw [List.map_map]; exact h2', r3⟩
          have H9 := H8.addPk pk hp7 (g.given + 1)
          refine ⟨_, rfl, L.a, C, L.dx, _, _, rfl, H9.hA, T.cl, T.nP, rF_packages, L.lP, _, rfl, .inl (SqL.of upd_same), _, _, rfl, rfl, by show 1 ≤ sizeLine; decide, fun p hp0 => ?_⟩
          have z := q.done (st.trans (if_neg c3)) H9 (fun c o e r => by
            have hc : H c ≠ none := by rw [e]; exact nofun
            refine ⟨?_, (r2 c hc).trans r⟩
            rw [upd_ne (fun z => by rw [z, hA.rP] at r; cases r)]
            exact s7 c o e) (fun c hc => s7.free (upd_free hc)) p hp0
          have ee : [V.int (((pas.map V.ref ++ [V.ref x]).length : Nat) - 1 : Int)] = (Ut14.ints [g.given]).map V.int := by
            rw [List.length_append, gl]
            show [V.int (((g.given + 1 : Nat) : Int) - 1)] = [V.int (g.given : Int)]
            congr 2
            omega
          rw [← ee] at z
          exact z
end
end Tof

namespace Tof
open PySem PySem.Spec PyProof.Rows L2
abbrev sOutcome : Stmt := inClass cRc 13
abbrev sSettle : Stmt := inClass cRc 14
abbrev sChoose : Stmt := inClass cRc 15
/-- what a step may do to the heap: what isn't the office's stands, tuples stand, nothing goes -/
structure Mv (ro : Addr → Rl) (H H' : Hp) : Prop where
  fr : ∀ b o, H b = some o → ro b = .oth → H' b = some o
  tup : ∀ b xs, H b = some (.tup xs) → H' b = some (.tup xs)
  free : ∀ b, H' b = none → H b = none
theorem Mv.same {ro : Addr → Rl} {H H' : Hp} (s : Same H H') : Mv ro H H' := ⟨fun b o e _ => s b o e, fun b xs e => s b _ e, fun b e => s.free e⟩
theorem Mv.trans {ro : Addr → Rl} {H H1 H2 : Hp} (a : Mv ro H H1) (b : Mv ro H1 H2) : Mv ro H H2 := ⟨fun c o e r => b.fr c o (a.fr c o e r) r, fun c xs e => b.tup c xs (a.tup c xs e), fun c e => a.free c (b.free c e)⟩
theorem Mv.upd {ro : Addr → Rl} {H : Hp} {d : Addr} {u o : HO} (hd : H d = some u) (nt : NoTup u) (hr : ro d ≠ .oth) : Mv ro H (upd H d o) := by
  have k : Kp ro (ro d) H (L2.upd H d o) := Kp.upd hd nt rfl
  exact ⟨fun b v e r => k.all b v e (by rw [r]; exact fun z => hr z.symm), k.tup, k.fresh⟩
theorem Mv.toFr {ro : Addr → Rl} {H H' : Hp} (m : Mv ro H H') : Fr ro H ro H' := fun b o e r => ⟨m.fr b o e r, r⟩
theorem vint_eq (a b : Nat) : decide (nV a = nV b) = decide (a = b) := decide_eq_decide.mpr ⟨fun h => by have := V.int.inj h; omega, fun h => by rw [h]⟩
section
variable {C CP : Addr} {L : Lay} {ro : Addr → Rl} {H : Hp} {g : Ut14.House}
/-- the package at a place of the list -/
theorem At.pk (h : At C CP L ro H g) {xs : List V} (hx : H L.lP = some (.lst xs)) {i : Nat} {pa : Addr} (hi : xs[i]? = some (.ref pa)) {p : Ut14.Package} (hp : g.packages[i]? = some p) : PkAt CP ro H i pa p := by
  obtain ⟨pas, e1, e2, e3⟩ := h.hP
  rw [hx] at e1
  have e1 := HO.lst.inj (Option.some.inj e1)
  subst e1
  obtain ⟨pb, q1, q2⟩ := e3 i p hp
  rw [List.getElem?_map, q1] at hi
  have z := V.ref.inj (Option.some.inj hi)
  subst z
  exact q2
/-- a package's bases are others -/
theorem At.setBase (h : At C CP L ro H g) {xs : List V} (hx : H L.lP = some (.lst xs)) {i : Nat} {pa dx dt db : Addr} (hi : xs[i]? = some (.ref pa)) {p : Ut14.Package} (hp : g.packages[i]? = some p) (hpa : H pa = some (.ins CP dx (pF p.tongue dt db)))
    {kvs : List (L2.Key × V)} (hd : H db = some (.dK kvs)) (hr : ro db = .bs i) (ps : List Ut14.Package) (p' : Ut14.Package) (hl : ps.length = g.packages.length) (ho : ∀ j, j ≠ i → ps[j]? = g.packages[j]?)
    (hp' : ps[i]? = some p') (et : p'.tongue = p.tongue) (ei : p'.items.map tKV = p.items.map tKV) :
    At C CP L ro (upd H db (.dK (p'.items.map bKV))) { g with packages := ps } := by
  have k : Kp ro (.bs i) H (upd H db (.dK (p'.items.map bKV))) := Kp.upd hd trivial hr
  exact {
    fresh := fun b e => h.fresh b (k.fresh b e)
    hA := k.all _ _ h.hA (by rw [h.rA]; exact nofun)
    rA := h.rA
    hS := let ⟨s, e1, e2⟩ := h.hS; ⟨s, k.all _ _ e1 (by rw [h.rS]; exact nofun), e2⟩
    rS := h.rS
    hW := k.all _ _ h.hW (by rw [h.rW]; exact nofun)
    rW := h.rW
    hP := by
      obtain ⟨pas, e1, e2, e3⟩ := h.hP
      rw [hx] at e1
      have e1 := HO.lst.inj (Option.some.inj e1)
      subst e1
      refine ⟨pas, k.all _ _ hx (by rw [h.rP]; exact nofun), e2.trans hl.symm, fun j q hq => ?_⟩
      by_cases c : j = i
      · subst c
        rw [hp'] at hq
        cases hq
        obtain ⟨pb, q1, dx', dt', db', a1, a2, a3, a4, a5, a6⟩ := e3 j p hp
        rw [List.getElem?_map, q1] at hi
        have z := V.ref.inj (Option.some.inj hi)
        subst z
        rw [hpa] at a1
        obtain ⟨z1, z2, z3⟩ := HO.ins.inj (Option.some.inj a1)
        subst z2
        unfold pF at z3
        obtain ⟨_, z3⟩ := List.cons.inj z3
        obtain ⟨z4, z3⟩ := List.cons.inj z3
        obtain ⟨z5, _⟩ := List.cons.inj z3
        have z4 := V.ref.inj (Prod.mk.inj z4).2
        have z5 := V.ref.inj (Prod.mk.inj z5).2
        subst z4 z5
        exact ⟨pb, q1, dx, dt, db, by rw [et]; exact k.all _ _ hpa (by rw [a2]; exact nofun), a2, by rw [ei]; exact k.all _ _ a3 (by rw [a4]; exact nofun), a4, upd_same, a6⟩
      · rw [ho j c] at hq
        obtain ⟨pb, q1, q2⟩ := e3 j q hq
        exact ⟨pb, q1, q2.keep k nofun (fun z => c (Rl.bs.inj z).symm)⟩
    rP := h.rP
    hU := k.all _ _ h.hU (by rw [h.rU]; exact nofun)
    rU := h.rU
    hR := h.rels k nofun nofun
    rR := h.rR }
end
section
variable {P : Program} {w : World} {K : PySem.W.Frag} {mg : Str → Option Value} {base : Heap} {C CP : Addr}
/-! ### outcome_of -/
def spOutcome (C CP : Addr) : Sp := fun vs H Q _ => ∃ (L : Lay) (ro : Addr → Rl) (g : Ut14.House) (i : Nat) (pa : Addr) (p : Ut14.Package) (k n : Nat) (m : Ut14.Item), vs = [.ref L.a, .ref pa, nV k, nV n] ∧ At C CP L ro H g ∧ PkAt CP ro H i pa p ∧ (p.items.find? fun y => y.key == k) = some m ∧
  ∀ H', Same H H' → Q (nV (Ut14.fate (Ut14.says g p.tongue k m.text) m.base n)) H'
theorem scOutcome : FnScope ["self", "package", "key", "theirs", "ours"] ["self", "package", "key", "theirs"] (defScope sOutcome) := ⟨rfl, rfl, rfl, by decide +kernel, rfl, by decide +kernel, by decide +kernel⟩
theorem ok_outcome {f : Addr} {fd : FuncData} (F : Fun K "outcome_of" "Records.outcome_of" sOutcome f fd) (T : Txt K mg C CP) (GP : GCal P w K mg base "sent_place" 1 ["package", "key"] (spPlace CP)) (M2 : MCal P w K mg base C "work_at" 1 ["self", "place"] (spWorkAt C CP)) :
    FnOk P w K mg base CX0 2 f fd ["self", "package", "key", "theirs"] (spOutcome C CP) := by
  obtain ⟨f1, fd1, g1, k1, F1, b1⟩ := GP
  obtain ⟨f2, fd2, m2, F2, b2⟩ := M2
  refine F.ok scOutcome (fun vs H Q E h => ?_) (fun cdv A outer s H vs Q E hr h => ⟨_, pss_cons
    (ps_if (pt_cmpR op_eq (pv 3) (pe_dget (hu_of hr) (pe_fld (pv 1) rfl) (pv 2) (fun _ _ => rfl)) (nomark _)) (pss_one (ps_ret (pe_gi T.AS_SENT))) pss_nil)
    (pss_cons (ps_set (i := 4) scOutcome.nd rfl (Or.inl rfl) (pe_meth (pv 0) T.cl m2 F2 hr b2 .nil pass0 (pa_cons (pe_call F1 hr rfl g1 k1 b1 .nil pass0 (pa_cons (pv 1) (pa_cons (pv 2) pa_nil))) pa_nil)))
    (pss_cons (ps_if (pt_cmpR op_eq (pv 4) (pv 3) (nomark _)) (pss_one (ps_ret (pe_gi T.ALREADY_THERE))) pss_nil)
    (pss_cons (ps_if (pt_cmpR op_eq (pv 4) (pe_dget (hu_of hr) (pe_fld (pv 1) rfl) (pv 2) (fun _ _ => rfl)) (nomark _)) (pss_one (ps_ret (pe_gi T.TAKEN))) pss_nil)
    (pss_one (ps_ret (pe_gi T.LEFT_TO_CHOOSE)))))), ?_⟩)
  · obtain ⟨L, ro, g, i, pa, p, k, n, m, rfl, _⟩ := h
    rfl
  · obtain ⟨L, ro, g, i, pa, p, k, n, m, rfl, hA, hp, hf, q⟩ := h
    obtain ⟨dx, dt, db, e1, e2, e3, e4, e5, e6⟩ := id hp
    have hb : ∀ H', Same H H' → DGet H' db (nV k) (some (nV m.base)) := fun H' s => by
      have z := DGet.k (k := nK k) (s _ _ e5)
      rw [val_bases, hf] at z
      exact z
    unfold Ut14.fate at q
    refine ⟨_, rfl, _, rfl, pa, CP, dx, _, _, rfl, e1, T.clP, T.nBs, pF_bases, _, rfl, db, _, rfl, hb H (Same.refl H), rfl, _, rfl, ?_⟩
    rw [vint_eq]
    by_cases c1 : n = m.base
    · refine if_true_of (decide_eq_true c1) ?_
      rw [if_pos c1] at q
      exact q H (Same.refl H)
    rw [if_neg c1] at q
    refine if_false_of (decide_eq_false c1) ?_
    refine ⟨_, rfl, L.a, L.dx, _, rfl, hA.hA, rF_none (by decide +kernel), _, rfl, _, rfl, ro, i, pa, p, k, m, rfl, hp, hf, fun b nb => ?_⟩
    have s1 : Same H (upd H b (.tup ((pl p.tongue k m.text).map kV))) := upd_new nb
    refine ⟨L, ro, g, b, p.tongue, k, m.text, rfl, hA.same s1, upd_same, ?_⟩
    refine ⟨_, rfl, _, rfl, rfl, _, rfl, ?_⟩
    rw [vint_eq]
    by_cases c2 : Ut14.says g p.tongue k m.text = n
    · refine if_true_of (decide_eq_true c2) ?_
      rw [if_pos c2] at q
      exact q _ s1
    rw [if_neg c2] at q
    refine if_false_of (decide_eq_false c2) ?_
    refine ⟨_, rfl, _, rfl, pa, CP, dx, _, _, rfl, s1 _ _ e1, T.clP, T.nBs, pF_bases, _, rfl, db, _, rfl, hb _ s1, rfl, _, rfl, ?_⟩
    rw [vint_eq]
    by_cases c3 : Ut14.says g p.tongue k m.text = m.base
    · refine if_true_of (decide_eq_true c3) ?_
      rw [if_pos c3] at q
      exact q _ s1
    rw [if_neg c3] at q
    refine if_false_of (decide_eq_false c3) ?_
    exact q _ s1
/-! ### choose_one -/
def spChoose (C CP : Addr) : Sp := fun vs H Q _ => ∃ (L : Lay) (ro : Addr → Rl) (g : Ut14.House) (N t k x : Nat) (b : Addr) (th : Bool), vs = [.ref L.a, .ref b, nV (Ut14.bit th)] ∧ TupAt H b t k x ∧ At C CP L ro H g ∧ Ok N g ∧ Ans C CP L ro H g (.choose t k x th) Q
theorem scChoose : FnScope ["self", "place", "is_theirs", "theirs"] ["self", "place", "is_theirs"] (defScope sChoose) := ⟨rfl, rfl, rfl, by decide +kernel, rfl, by decide +kernel, by decide +kernel⟩
theorem ok_choose {f : Addr} {fd : FuncData} (F : Fun K "choose_one" "Records.choose_one" sChoose f fd) (T : Txt K mg C CP) (M : MCal P w K mg base C "how_it_stands" 1 ["self"] (spStands C CP))
    (M2 : MCal P w K mg base C "growth_at" 1 ["self", "place", "translation"] (spGrowth C CP)) (M3 : MCal P w K mg base C "too_much_work" 1 ["self", "growth"] (spTooMuch C CP)) (M4 : MCal P w K mg base C "put_work" 1 ["self", "place", "translation"] (spPutWork C CP)) :
    FnOk P w K mg base CX0 2 f fd ["self", "place", "is_theirs"] (spChoose C CP) := by
  obtain ⟨f1, fd1, m1, F1, b1⟩ := M
  obtain ⟨f2, fd2, m2, F2, b2⟩ := M2
  obtain ⟨f3, fd3, m3, F3, b3⟩ := M3
  obtain ⟨f4, fd4, m4, F4, b4⟩ := M4
  refine F.ok scChoose (fun vs H Q E h => ?_) (fun cdv A outer s H vs Q E hr h => ⟨_, pss_cons
    (ps_if (pt_cmp (pc_dnotin (hu_of hr) (pv 1) (pe_fld (pv 0) rfl))) (pss_one (ps_ret (pe_lst (pa_cons (pe_gi T.MISSING) pa_nil)))) pss_nil)
    (pss_cons (ps_if (pt_cmpR op_eq (pv 2) pe_int (nomark _))
      (pss_cons (ps_set (i := 3) scChoose.nd rfl (Or.inl rfl) (pe_dget (hu_of hr) (pe_fld (pv 0) rfl) (pv 1) (fun _ _ => rfl)))
      (pss_cons (ps_if (pt_val (pe_meth (pv 0) T.cl m3 F3 hr b3 .nil pass0 (pa_cons (pe_meth (pv 0) T.cl m2 F2 hr b2 .nil pass0 (pa_cons (pv 1) (pa_cons (pv 3) pa_nil))) pa_nil))) (pss_one (ps_ret (pe_lst (pa_cons (pe_gi T.FULL) pa_nil)))) pss_nil)
      (pss_one (ps_expr (pe_meth (pv 0) T.cl m4 F4 hr b4 .nil pass0 (pa_cons (pv 1) (pa_cons (pv 3) pa_nil))))))) pss_nil)
    (pss_cons (ps_expr (pe_bm PySem.F.plainAttrs_dict PySem.F.slot_dict_pop PySem.F.type_dict_pop (mt_popT1 (hu_of hr)) (pe_fld (pv 0) rfl) (pa_cons (pv 1) pa_nil)))
    (pss_one (ps_ret (pe_meth0 (pv 0) T.cl m1 F1 hr b1 .nil pass0))))), ?_⟩)
  · obtain ⟨L, ro, g, N, t, k, x, b, th, rfl, _⟩ := h
    rfl
  · obtain ⟨L, ro, g, N, t, k, x, b, th, rfl, hb, hA, hO, q⟩ := h
    have hv := val_open g.open_ t k x
    refine ⟨_, rfl, _, rfl, L.a, C, L.dx, _, _, rfl, hA.hA, T.cl, T.nU, rF_unsettled, L.dU, _, rfl, DGet.t hA.hU hb, _, rfl, ?_⟩
    rw [hv]
    cases e : g.open_.find? (fun o => o.tongue == t && (o.key == k && o.text == x)) with
    | none =>
      refine if_true_of (by rfl) ⟨by decide, fun p hp => ?_⟩
      refine q.no ?_ hA (Same.refl H) p hp
      show (match g.open_.find? (fun o => o.tongue == t && (o.key == k && o.text == x)) with | none => _ | some o => _) = _
      rw [e]
    | some o =>
      rw [e] at hv
      have st : Ut14.step g (.choose t k x th) = if 60 < (if th = true then Ut14.put g.work ⟨t, k, x, o.theirs⟩ else g.work).length then (g, [-5]) else
          ({ g with work := if th = true then Ut14.put g.work ⟨t, k, x, o.theirs⟩ else g.work, open_ := Ut14.closed g.open_ t k x }, Ut14.told { g with work := if th = true then Ut14.put g.work ⟨t, k, x, o.theirs⟩ else g.work, open_ := Ut14.closed g.open_ t k x }) := by
        show (match g.open_.find? (fun o => o.tongue == t && (o.key == k && o.text == x)) with | none => _ | some o => _) = _
        rw [e]
      refine if_false_of (by rfl) ?_
      -- behind the if the work is what it is to be
      have fin : ∀ (H1 : Hp) (w1 : List Ut14.Work) (v : Option V), w1 = (if th = true then Ut14.put g.work ⟨t, k, x, o.theirs⟩ else g.work) → ¬ 60 < w1.length → At C CP L ro H1 { g with work := w1 } → Mv ro H H1 →
          (tSeq (tDrop (tBM K "dict" rPopT1 (tFld K (tVar 0) "unsettled") (tCons (tVar 1) tNil))) (tRet (tMeth C "how_it_stands" (spStands C CP) [] E0 (tVar 0) tNil)))
            { nx := fun _ H' => Q .non H', rt := Q } [some (.ref L.a), some (.ref b), some (nV (Ut14.bit th)), v] H1 := by
        intro H1 w1 v ew n60 hA1 mv
        refine ⟨_, rfl, L.a, C, L.dx, _, _, rfl, hA1.hA, T.cl, T.nU, rF_unsettled, ty_dT hA1.hU, _, rfl, L.dU, _, pl t k x, b, _, rfl, rfl, hA1.hU, mv.tup _ _ hb, hv, ?_⟩
        rw [drop_open]
        have hA2 := hA1.setOpen (Ut14.closed g.open_ t k x)
        refine ⟨_, rfl, L.a, L.dx, _, rfl, hA2.hA, rF_none (by decide +kernel), L, ro, _, rfl, hA2, ?_⟩
        have mv2 : Mv ro H _ := mv.trans (Mv.upd (o := .dT ((Ut14.closed g.open_ t k x).map oKV)) hA1.hU trivial (by rw [hA.rU]; exact nofun))
        subst ew
        exact q.done (st.trans (if_neg n60)) hA2 mv2.toFr mv2.free
      refine ⟨_, rfl, rfl, _, rfl, ?_⟩
      cases th with
      | false =>
        refine if_false_of (by rfl) ?_
        exact fin H g.work none rfl (by have := hO.wlen; omega) hA (Mv.same (Same.refl H))
      | true =>
        refine if_true_of (by rfl) ?_
        refine ⟨_, rfl, L.a, C, L.dx, _, _, rfl, hA.hA, T.cl, T.nU, rF_unsettled, _, rfl, L.dU, nV o.theirs, rfl, (by have z := DGet.t hA.hU hb; rw [hv] at z; exact z), ?_⟩
        refine ⟨_, rfl, L.a, L.dx, _, rfl, hA.hA, rF_none (by decide +kernel), _, rfl, L.a, L.dx, _, rfl, hA.hA, rF_none (by decide +kernel), _, rfl, _, rfl, L, ro, g, b, t, k, x, o.theirs, rfl, hA, hb, L, ro, g, _, rfl, hA, _, rfl, ?_⟩
        have pl := put_len hO.wnd t k x o.theirs
        by_cases c3 : 60 < (Ut14.put g.work ⟨t, k, x, o.theirs⟩).length
        · refine if_true_of (decide_eq_true (by omega)) ⟨by decide, fun p hp => ?_⟩
          exact q.no (st.trans (if_pos c3)) hA (Same.refl H) p hp
        · refine if_false_of (decide_eq_false (by omega)) ?_
          refine ⟨_, rfl, L.a, L.dx, _, rfl, hA.hA, rF_none (by decide +kernel), _, rfl, _, rfl, L, ro, g, b, t, k, x, o.theirs, rfl, hA, hb, by have := hO.wlen; omega, ?_⟩
          exact fin _ _ _ rfl c3 (hA.setWork _) (Mv.upd hA.hW trivial (by rw [hA.rW]; exact nofun))
end
end Tof

namespace Tof
open PySem PySem.Spec PyProof.Rows L2
/-! ### one that comes back, in plain words -/
abbrev rebase (k n : Nat) (l : List Ut14.Item) : List Ut14.Item := l.map fun x => if x.key = k then { x with base := n } else x
abbrev repack (g : Ut14.House) (j k n : Nat) : List Ut14.Package := g.packages.map fun q => if q.number = j then { q with items := rebase k n q.items } else q
theorem find_key {l : List Ut14.Item} {k : Nat} {m : Ut14.Item} (h : (l.find? fun y => y.key == k) = some m) : m.key = k := eq_of_beq (List.find?_some (p := fun y : Ut14.Item => y.key == k) h)
theorem rebase_texts (k n : Nat) (l : List Ut14.Item) : (rebase k n l).map tKV = l.map tKV := by
  rw [List.map_map]
  congr 1
  funext x
  show tKV (if x.key = k then { x with base := n } else x) = tKV x
  split <;> rfl
theorem rebase_bases (k n : Nat) (l : List Ut14.Item) {m : Ut14.Item} (h : (l.find? fun y => y.key == k) = some m) : putK (l.map bKV) (nK k) (nV n) = (rebase k n l).map bKV := by
  have a : (l.any fun y => y.key == k) = true := List.any_eq_true.mpr ⟨m, List.mem_of_find?_eq_some h, List.find?_some (p := fun y : Ut14.Item => y.key == k) h⟩
  rw [putK_of bKV (fun y => y.key == k) (nK k) (nV n) (fun x => { x with base := n }) ⟨k, 0, n⟩ (fun y => nK_eq ..) (fun _ _ => rfl) rfl, if_pos a]
  congr 2
  funext x
  by_cases c : x.key = k
  · rw [if_pos c, if_pos (by rw [c]; exact beq_self_eq_true k)]
  · rw [if_neg c, if_neg (by rw [beq_false_of_ne c]; exact Bool.false_ne_true)]
abbrev Num (g : Ut14.House) : Prop := ∀ (i : Nat) (p : Ut14.Package), g.packages[i]? = some p → p.number = i
theorem repack_here {g : Ut14.House} (hn : Num g) {i k n : Nat} {p : Ut14.Package} (hp : g.packages[i]? = some p) : (repack g p.number k n)[i]? = some { p with items := rebase k n p.items } := by
  rw [List.getElem?_map, hp]
  show some (if p.number = p.number then _ else _) = _
  rw [if_pos rfl]
theorem repack_else {g : Ut14.House} (hn : Num g) {i k n : Nat} {p : Ut14.Package} (hp : g.packages[i]? = some p) (j : Nat) (hj : j ≠ i) : (repack g p.number k n)[j]? = g.packages[j]? := by
  rw [List.getElem?_map]
  cases e : g.packages[j]? with
  | none => rfl
  | some q =>
    show some (if q.number = p.number then _ else _) = _
    rw [if_neg (by rw [hn j q e, hn i p hp]; exact hj)]
theorem backOne_eq (g : Ut14.House) (p : Ut14.Package) (m : Ut14.Item) (n : Nat) (f : Nat) (hf : f = Ut14.fate (Ut14.says g p.tongue m.key m.text) m.base n) :
    Ut14.backOne g p m n = { g with
      work := if f = 2 then Ut14.put g.work ⟨p.tongue, m.key, m.text, n⟩ else g.work
      open_ := if f = 3 then Ut14.closed g.open_ p.tongue m.key m.text ++ [⟨p.tongue, m.key, m.text, n⟩] else if f = 1 then g.open_ else Ut14.closed g.open_ p.tongue m.key m.text
      packages := repack g p.number m.key n } := by
  have lt : f = 0 ∨ f = 1 ∨ f = 2 ∨ f = 3 := by
    rw [hf]
    unfold Ut14.fate
    split
    · exact .inr (.inl rfl)
    · split
      · exact .inl rfl
      · split
        · exact .inr (.inr (.inl rfl))
        · exact .inr (.inr (.inr rfl))
  unfold Ut14.backOne
  dsimp only
  rw [← hf]
  rcases lt with e | e | e | e <;> rw [e] <;> rfl
section
variable {P : Program} {w : World} {K : PySem.W.Frag} {mg : Str → Option Value} {base : Heap} {C CP : Addr}
/-! ### settle -/
def spSettle (C CP : Addr) : Sp := fun vs H Q _ => ∃ (L : Lay) (ro : Addr → Rl) (g : Ut14.House) (i : Nat) (pa : Addr) (xs : List V) (p : Ut14.Package) (k n : Nat) (m : Ut14.Item), vs = [.ref L.a, .ref pa, nV k, nV n] ∧ At C CP L ro H g ∧ Num g ∧ g.work.length < 1000 ∧ g.open_.length < 1000 ∧ p.items.length ≤ 6 ∧
  H L.lP = some (.lst xs) ∧ xs[i]? = some (.ref pa) ∧ g.packages[i]? = some p ∧ (p.items.find? fun y => y.key == k) = some m ∧
  ∀ H', At C CP L ro H' (Ut14.backOne g p m n) → Mv ro H H' → H' L.lP = some (.lst xs) → Q (nV (Ut14.fate (Ut14.says g p.tongue k m.text) m.base n)) H'
theorem scSettle : FnScope ["self", "package", "key", "theirs", "outcome", "place"] ["self", "package", "key", "theirs"] (defScope sSettle) := ⟨rfl, rfl, rfl, by decide +kernel, rfl, by decide +kernel, by decide +kernel⟩
theorem ok_settle {f : Addr} {fd : FuncData} (F : Fun K "settle" "Records.settle" sSettle f fd) (T : Txt K mg C CP) (GP : GCal P w K mg base "sent_place" 1 ["package", "key"] (spPlace CP)) (MO : MCal P w K mg base C "outcome_of" 2 ["self", "package", "key", "theirs"] (spOutcome C CP))
    (M4 : MCal P w K mg base C "put_work" 1 ["self", "place", "translation"] (spPutWork C CP)) : FnOk P w K mg base CX0 3 f fd ["self", "package", "key", "theirs"] (spSettle C CP) := by
  obtain ⟨f1, fd1, g1, k1, F1, b1⟩ := GP
  obtain ⟨f2, fd2, m2, F2, b2⟩ := MO
  obtain ⟨f4, fd4, m4, F4, b4⟩ := M4
  refine F.ok scSettle (fun vs H Q E h => ?_) (fun cdv A outer s H vs Q E hr h => ⟨_, pss_cons
    (ps_set (i := 4) scSettle.nd rfl (Or.inl rfl) (pe_meth (pv 0) T.cl m2 F2 hr b2 .nil pass0 (pa_cons (pv 1) (pa_cons (pv 2) (pa_cons (pv 3) pa_nil)))))
    (pss_cons (ps_set (i := 5) scSettle.nd rfl (Or.inl rfl) (pe_call F1 (hr.mono (by decide)) rfl g1 k1 b1 .nil pass0 (pa_cons (pv 1) (pa_cons (pv 2) pa_nil))))
    (pss_cons (ps_if (pt_cmpR op_ne (pv 4) (pe_gi T.AS_SENT) (nomark _)) (pss_one (ps_expr (pe_bm PySem.F.plainAttrs_dict PySem.F.slot_dict_pop PySem.F.type_dict_pop (L2.DX.mt_popT (hu_of hr)) (pe_fld (pv 0) rfl) (pa_cons (pv 5) (pa_cons pe_non pa_nil))))) pss_nil)
    (pss_cons (ps_if (pt_cmpR op_eq (pv 4) (pe_gi T.TAKEN) (nomark _)) (pss_one (ps_expr (pe_meth (pv 0) T.cl m4 F4 (hr.mono (by decide)) b4 .nil pass0 (pa_cons (pv 5) (pa_cons (pv 3) pa_nil))))) pss_nil)
    (pss_cons (ps_if (pt_cmpR op_eq (pv 4) (pe_gi T.LEFT_TO_CHOOSE) (nomark _)) (pss_one (ps_dput (hu_of hr) (pe_fld (pv 0) rfl) (pv 5) (pv 3) rfl)) pss_nil)
    (pss_cons (ps_dput (hu_of hr) (pe_fld (pv 1) rfl) (pv 2) (pv 3) rfl)
    (pss_one (ps_ret (pv 4)))))))), ?_⟩)
  · obtain ⟨L, ro, g, i, pa, xs, p, k, n, m, rfl, _⟩ := h
    rfl
  · obtain ⟨L, ro, g, i, pa, xs, p, k, n, m, rfl, hA, hN, hw, ho, h6, hx, hi, hp, hf, q⟩ := h
    have hk := find_key hf
    have pk := hA.pk hx hi hp
    generalize hF : Ut14.fate (Ut14.says g p.tongue k m.text) m.base n = F at q
    have bo := backOne_eq g p m n F (by rw [hk]; exact hF.symm)
    rw [hk] at bo
    refine ⟨_, rfl, L.a, L.dx, _, rfl, hA.hA, rF_none (by decide +kernel), _, rfl, _, rfl, _, rfl, L, ro, g, i, pa, p, k, n, m, rfl, hA, pk, hf, fun H1 s1 => ?_⟩
    rw [hF]
    have hA1 := hA.same s1
    have pk1 := hA1.pk (s1 _ _ hx) hi hp
    refine ⟨_, rfl, _, rfl, ro, i, pa, p, k, m, rfl, pk1, hf, fun b nb => ?_⟩
    have s2 : Same H (upd H1 b (.tup ((pl p.tongue k m.text).map kV))) := s1.trans (upd_new nb)
    generalize eH2 : upd H1 b (.tup ((pl p.tongue k m.text).map kV)) = H2 at s2
    have hA2 := hA.same s2
    have tb : TupAt H2 b p.tongue k m.text := by rw [← eH2]; exact upd_same
    -- the last two rows
    have fin : ∀ (H5 : Hp), At C CP L ro H5 { g with
          work := if F = 2 then Ut14.put g.work ⟨p.tongue, k, m.text, n⟩ else g.work
          open_ := if F = 3 then Ut14.closed g.open_ p.tongue k m.text ++ [⟨p.tongue, k, m.text, n⟩] else if F = 1 then g.open_ else Ut14.closed g.open_ p.tongue k m.text } → Mv ro H H5 → H5 L.lP = some (.lst xs) →
        (tSeq (sDPut (tFld K (tVar 1) "bases") (tVar 2) (tVar 3)) (tRet (tVar 4))) { nx := fun _ H' => Q .non H', rt := Q } [some (.ref L.a), some (.ref pa), some (nV k), some (nV n), some (nV F), some (.ref b)] H5 := by
      intro H5 hA5 mv hx5
      obtain ⟨dx, dt, db, e1, e2, e3, e4, e5, e6⟩ := hA5.pk hx5 hi hp
      refine ⟨_, rfl, _, rfl, pa, CP, dx, _, _, rfl, e1, T.clP, T.nBs, pF_bases, _, rfl, db, _, rfl, DPut.k (k := nK k) e5 ?_, ?_⟩
      · exact small1000 (by rw [List.length_map]; omega)
      · rw [rebase_bases k n _ hf]
        have hA6 := hA5.setBase hx5 hi hp e1 e5 e6 (repack g p.number k n) { p with items := rebase k n p.items } (by rw [List.length_map]) (repack_else hN hp) (repack_here hN hp) rfl (rebase_texts k n p.items)
        refine ⟨_, rfl, q _ ?_ (mv.trans (Mv.upd e5 trivial (by rw [e6]; exact nofun))) ?_⟩
        · rw [bo]
          exact hA6
        · rw [upd_ne (fun z => by have := hA5.rP; rw [z, e6] at this; cases this)]
          exact hx5
    have mv2 : Mv ro H H2 := Mv.same s2
    have hx2 := s2 _ _ hx
    have nPU : L.lP ≠ L.dU := fun z => by have := hA.rP; rw [z, hA.rU] at this; cases this
    have nPW : L.lP ≠ L.dW := fun z => by have := hA.rP; rw [z, hA.rW] at this; cases this
    have nbU : b ≠ L.dU := ne_of tb hA2.hU (fun z => nomatch z)
    have hrU : ro L.dU ≠ .oth := by rw [hA.rU]; exact nofun
    have hrW : ro L.dW ≠ .oth := by rw [hA.rW]; exact nofun
    refine ⟨_, rfl, rfl, _, rfl, ?_⟩
    by_cases c1 : F = 1
    · subst c1
      refine if_false_of (by rfl) ?_
      refine ⟨_, rfl, rfl, _, rfl, if_false_of (by rfl) ?_⟩
      refine ⟨_, rfl, rfl, _, rfl, if_false_of (by rfl) ?_⟩
      exact fin H2 hA2 mv2 hx2
    · refine if_true_of (by
        have z := vint_eq F 1
        rw [decide_eq_false c1] at z
        show (!decide (nV F = nV 1)) = true
        rw [z]
        rfl) ?_
      -- behind the pop
      have pop : ∀ H3 : Hp, H3 = upd H2 L.dU (.dT (dropK (g.open_.map oKV) (pl p.tongue k m.text))) → (tSeq (tIfS (tTest (tOp rEq (tVar 4) (tC (.int 2)))) (tDrop (tMeth C "put_work" (spPutWork C CP) [] E0 (tVar 0) (tCons (tVar 5) (tCons (tVar 3) tNil)))) tNext)
          (tSeq (tIfS (tTest (tOp rEq (tVar 4) (tC (.int 3)))) (sDPut (tFld K (tVar 0) "unsettled") (tVar 5) (tVar 3)) tNext) (tSeq (sDPut (tFld K (tVar 1) "bases") (tVar 2) (tVar 3)) (tRet (tVar 4)))))
          { nx := fun _ H' => Q .non H', rt := Q } [some (.ref L.a), some (.ref pa), some (nV k), some (nV n), some (nV F), some (.ref b)] H3 := by
        intro H3 e3
        have e3' := e3
        rw [drop_open] at e3'
        have hA3 := hA2.setOpen (Ut14.closed g.open_ p.tongue k m.text)
        rw [← e3'] at hA3
        have mv3 : Mv ro H H3 := by
          rw [e3]
          exact mv2.trans (Mv.upd hA2.hU trivial hrU)
        have hx3 : H3 L.lP = some (.lst xs) := by
          rw [e3, upd_ne nPU]
          exact hx2
        have tb3 : TupAt H3 b p.tongue k m.text := by
          show H3 b = _
          rw [e3, upd_ne nbU]
          exact tb
        refine ⟨_, rfl, rfl, _, rfl, ?_⟩
        by_cases c2 : F = 2
        · subst c2
          refine if_true_of (by rfl) ?_
          refine ⟨_, rfl, L.a, L.dx, _, rfl, hA3.hA, rF_none (by decide +kernel), _, rfl, _, rfl, L, ro, _, b, p.tongue, k, m.text, n, rfl, hA3, tb3, hw, ?_⟩
          refine ⟨_, rfl, rfl, _, rfl, if_false_of (by rfl) ?_⟩
          refine fin _ (hA3.setWork _) (mv3.trans (Mv.upd hA3.hW trivial hrW)) ?_
          rw [upd_ne nPW]
          exact hx3
        · refine if_false_of (by
            have z := vint_eq F 2
            rw [decide_eq_false c2] at z
            exact z) ?_
          refine ⟨_, rfl, rfl, _, rfl, ?_⟩
          by_cases c3 : F = 3
          · subst c3
            refine if_true_of (by rfl) ?_
            refine ⟨_, rfl, _, rfl, L.a, C, L.dx, _, _, rfl, hA3.hA, T.cl, T.nU, rF_unsettled, _, rfl, L.dU, _, rfl, DPut.t (by rw [e3]; exact upd_same) tb3 ?_, ?_⟩
            · refine small1000 (Nat.le_trans (dropK_le _ _) ?_)
              rw [List.length_map]
              omega
            · rw [e3, upd_upd, put_open]
              refine fin _ (hA2.setOpen _) (mv2.trans (Mv.upd hA2.hU trivial hrU)) ?_
              rw [upd_ne nPU]
              exact hx2
          · refine if_false_of (by
              have z := vint_eq F 3
              rw [decide_eq_false c3] at z
              exact z) ?_
            refine fin H3 ?_ mv3 hx3
            rw [if_neg c2, if_neg c3, if_neg c1]
            exact hA3
      refine ⟨_, rfl, L.a, C, L.dx, _, _, rfl, hA2.hA, T.cl, T.nU, rF_unsettled, ty_dT hA2.hU, _, rfl, L.dU, _, pl p.tongue k m.text, b, _, rfl, rfl, hA2.hU, tb, fun v hv => pop _ rfl, fun hv => pop _ ?_⟩
      rw [drop_same hv]
      exact (upd_id hA2.hU).symm
end
end Tof

namespace Tof
open PySem PySem.Spec PyProof.Rows L2
/-! ### work behind a put -/
theorem put_apart {l : List Ut14.Work} (h : Apart l) (w : Ut14.Work) : Apart (Ut14.put l w) := by
  unfold Ut14.put
  refine List.pairwise_append.mpr ⟨h.sublist List.filter_sublist, ?_, fun a ha b hb => ?_⟩
  · split
    · exact List.Pairwise.nil
    · exact List.pairwise_singleton ..
  · split at hb
    · cases hb
    · rw [List.mem_singleton.mp hb]
      have q := (List.mem_filter.mp ha).2
      rintro ⟨e1, e2, e3⟩
      rw [e1, e2, e3, beq_self_eq_true, beq_self_eq_true, beq_self_eq_true] at q
      cases q
theorem put_pos {l : List Ut14.Work} (h : ∀ w ∈ l, w.trans ≠ 0) (w : Ut14.Work) : ∀ v ∈ Ut14.put l w, v.trans ≠ 0 := by
  unfold Ut14.put
  intro v hv
  rcases List.mem_append.mp hv with z | z
  · exact h v (List.mem_filter.mp z).1
  · split at z
    · cases z
    · rename_i c
      rw [List.mem_singleton.mp z]
      exact c
theorem put_le (l : List Ut14.Work) (w : Ut14.Work) : (Ut14.put l w).length ≤ l.length + 1 := by
  unfold Ut14.put
  rw [List.length_append]
  have := List.length_filter_le (fun y : Ut14.Work => !(y.tongue == w.tongue && (y.key == w.key && y.text == w.text))) l
  split
  · rw [List.length_nil]
    omega
  · rw [List.length_singleton]
    omega
theorem workOf_put (l : List Ut14.Work) (t k x n t' k' x' : Nat) (h : ¬ (t = t' ∧ k = k' ∧ x = x')) : Ut14.workOf (Ut14.put l ⟨t, k, x, n⟩) t' k' x' = Ut14.workOf l t' k' x' := by
  unfold Ut14.workOf Ut14.put
  congr 1
  have tl : List.find? (atP t' k' x') (if n = 0 then [] else [(⟨t, k, x, n⟩ : Ut14.Work)]) = none := by
    split
    · rfl
    · rw [List.find?_cons]
      have : atP t' k' x' ⟨t, k, x, n⟩ = false := by
        rw [← Bool.not_eq_true]
        exact fun z => h (atP_iff.mp z)
      rw [this]
      rfl
  show List.find? (atP t' k' x') ((l.filter fun y => !(atP t k x y)) ++ _) = List.find? (atP t' k' x') l
  rw [List.find?_append]
  rw [show List.find? (atP t' k' x') (if (⟨t, k, x, n⟩ : Ut14.Work).trans = 0 then [] else [(⟨t, k, x, n⟩ : Ut14.Work)]) = none from tl, Option.or_none]
  induction l with
  | nil => rfl
  | cons a l ih =>
    rw [List.filter_cons]
    cases c : atP t k x a with
    | true =>
      rw [show (!true) = false from rfl, if_neg Bool.false_ne_true, ih, List.find?_cons]
      have : atP t' k' x' a = false := by
        rw [← Bool.not_eq_true]
        intro z
        obtain ⟨a1, a2, a3⟩ := atP_iff.mp c
        obtain ⟨b1, b2, b3⟩ := atP_iff.mp z
        exact h ⟨a1.symm.trans b1, a2.symm.trans b2, a3.symm.trans b3⟩
      rw [this]
    | false =>
      rw [show (!false) = true from rfl, if_pos rfl, List.find?_cons, List.find?_cons, ih]
/-! ### packages -/
theorem pkOf {g : Ut14.House} (hn : Num g) (i : Nat) : Ut14.packageOf g i = g.packages[i]? := by
  unfold Ut14.packageOf
  cases e : g.packages.find? (fun q => q.number == i) with
  | some q =>
    have h1 := List.mem_of_find?_eq_some e
    have h2 : q.number = i := eq_of_beq (List.find?_some (p := fun q : Ut14.Package => q.number == i) e)
    obtain ⟨j, hj⟩ := List.mem_iff_getElem?.mp h1
    have := hn j q hj
    rw [← h2, this, hj]
  | none =>
    cases c : g.packages[i]? with
    | none => rfl
    | some p =>
      have := List.find?_eq_none.mp e p (List.mem_of_getElem? c)
      rw [hn i p c, beq_self_eq_true] at this
      exact absurd rfl this
theorem backFrom_snoc (p : Nat) (k t : Nat) : ∀ (l : List (Nat × Nat)) (g : Ut14.House), Ut14.backFrom p g (l ++ [(k, t)]) =
    match (Ut14.packageOf (Ut14.backFrom p g l).1 p).bind fun q => (q.items.find? fun x => x.key == k).map fun x => (q, x) with
    | none => Ut14.backFrom p g l
    | some (q, m) => (Ut14.backOne (Ut14.backFrom p g l).1 q m t, (Ut14.backFrom p g l).2 ++ [Ut14.fate (Ut14.says (Ut14.backFrom p g l).1 q.tongue k m.text) m.base t])
  | [], g => by
    rw [List.nil_append]
    unfold Ut14.backFrom
    show (match (Ut14.packageOf g p).bind fun q => (q.items.find? fun x => x.key == k).map fun x => (q, x) with | none => _ | some (q, m) => _) = (match (Ut14.packageOf g p).bind fun q => (q.items.find? fun x => x.key == k).map fun x => (q, x) with | none => _ | some (q, m) => _)
    cases (Ut14.packageOf g p).bind fun q => (q.items.find? fun x => x.key == k).map fun x => (q, x) <;> rfl
  | (k', t') :: l, g => by
    rw [List.cons_append]
    rw [Ut14.backFrom, Ut14.backFrom]
    cases e : (Ut14.packageOf g p).bind fun q => (q.items.find? fun x => x.key == k').map fun x => (q, x) with
    | none =>
      dsimp only
      exact backFrom_snoc p k t l g
    | some r =>
      obtain ⟨q, m⟩ := r
      dsimp only
      rw [backFrom_snoc p k t l (Ut14.backOne g q m t')]
      cases (Ut14.packageOf (Ut14.backFrom p (Ut14.backOne g q m t') l).1 p).bind fun q => (q.items.find? fun x => x.key == k).map fun x => (q, x) <;> rfl
/-! ### the office behind one that came back -/
theorem rebase_find (k n j : Nat) (hj : j ≠ k) : ∀ l : List Ut14.Item, ((rebase k n l).find? fun y => y.key == j) = l.find? fun y => y.key == j
  | [] => rfl
  | a :: l => by
    have ih := rebase_find k n j hj l
    show (List.find? _ ((if a.key = k then { a with base := n } else a) :: rebase k n l)) = _
    by_cases c : a.key = k
    · rw [if_pos c, List.find?_cons, List.find?_cons, ih]
      show (match a.key == j with | true => _ | false => _) = (match a.key == j with | true => _ | false => _)
      rw [beq_false_of_ne (by rw [c]; exact fun z => hj z.symm)]
    · rw [if_neg c, List.find?_cons, List.find?_cons, ih]
theorem rebase_map {β : Type} (f : Ut14.Item → β) (hf : ∀ x n, f { x with base := n } = f x) (k n : Nat) (l : List Ut14.Item) : (rebase k n l).map f = l.map f := by
  rw [List.map_map]
  congr 1
  funext x
  show f (if x.key = k then { x with base := n } else x) = f x
  split
  · exact hf x n
  · rfl
theorem closed_le (l : List Ut14.Open) (t k x : Nat) : (Ut14.closed l t k x).length ≤ l.length := List.length_filter_le _ _
theorem ok_backOne {N W : Nat} {g : Ut14.House} (h : OkW N W g) {i : Nat} {p : Ut14.Package} (hp : g.packages[i]? = some p) {k : Nat} {m : Ut14.Item} (hk : m.key = k) (n : Nat) : OkW (N + 1) (W + 1) (Ut14.backOne g p m n) := by
  rw [backOne_eq g p m n _ rfl]
  generalize Ut14.fate (Ut14.says g p.tongue m.key m.text) m.base n = F
  refine ⟨h.srt, h.slen, ?_, ?_, ?_, ?_, ?_, ?_, ?_, ?_, ?_, h.rlen, h.rnum, h.rsrt, h.rll⟩
  · dsimp only
    have := put_le g.work ⟨p.tongue, m.key, m.text, n⟩
    have := h.wlen
    split <;> omega
  · dsimp only
    split
    · exact put_pos h.wpos _
    · exact h.wpos
  · dsimp only
    split
    · exact put_apart h.wnd _
    · exact h.wnd
  · dsimp only
    have := closed_le g.open_ p.tongue m.key m.text
    have := h.olen
    split
    · rw [List.length_append, List.length_singleton]
      omega
    · split <;> omega
  · dsimp only
    rw [List.length_map]
    exact h.given
  · dsimp only
    rw [List.length_map]
    exact h.plen
  · intro j q hq
    dsimp only at hq
    rw [List.getElem?_map] at hq
    cases e : g.packages[j]? with
    | none =>
      rw [e] at hq
      cases hq
    | some r =>
      rw [e] at hq
      have hq := Option.some.inj hq
      rw [← hq, ← h.num j r e]
      dsimp only
      split <;> rfl
  · intro q hq
    dsimp only at hq
    obtain ⟨r, hr, e⟩ := List.mem_map.mp hq
    rw [← e]
    split
    · show ((rebase m.key n r.items).map (·.key)).Nodup
      rw [rebase_map (·.key) (fun _ _ => rfl)]
      exact h.pnd r hr
    · exact h.pnd r hr
  · intro q hq
    dsimp only at hq
    obtain ⟨r, hr, e⟩ := List.mem_map.mp hq
    rw [← e]
    split
    · show (rebase m.key n r.items).length ≤ 6
      rw [List.length_map]
      exact h.pil r hr
    · exact h.pil r hr
/-! ### the package's keys, one behind another -/
def grOne (g : Ut14.House) (p : Ut14.Package) (kn : Nat × Nat) : Int := match p.items.find? fun y => y.key == kn.1 with
  | none => 0
  | some m => if Ut14.fate (Ut14.says g p.tongue kn.1 m.text) m.base kn.2 = 2 then gr g.work p.tongue kn.1 m.text kn.2 else 0
def grB (g : Ut14.House) (p : Ut14.Package) (l : List (Nat × Nat)) : Int := (l.map (grOne g p)).sum
structure BI (N : Nat) (g : Ut14.House) (i : Nat) (p : Ut14.Package) (l : List (Nat × Nat)) (g' : Ut14.House) (p' : Ut14.Package) : Prop where
  ok : OkW (N + l.length) (60 + l.length) g'
  at_ : g'.packages[i]? = some p'
  tg : p'.tongue = p.tongue
  ks : (p'.items.map (·.key)) = p.items.map (·.key)
  wk : ∀ k, k ∉ l.map (·.1) → ∀ x, Ut14.workOf g'.work p.tongue k x = Ut14.workOf g.work p.tongue k x
  it : ∀ k, k ∉ l.map (·.1) → (p'.items.find? fun y => y.key == k) = p.items.find? fun y => y.key == k
  len : (g'.work.length : Int) = g.work.length + grB g p l
theorem BI.start {N : Nat} {g : Ut14.House} (h : Ok N g) {i : Nat} {p : Ut14.Package} (hp : g.packages[i]? = some p) : BI N g i p [] g p :=
  ⟨h, hp, rfl, rfl, fun _ _ _ => rfl, fun _ _ => rfl, by unfold grB; simp⟩
theorem BI.step {N : Nat} {g : Ut14.House} {i : Nat} {p : Ut14.Package} {l : List (Nat × Nat)} {g' : Ut14.House} {p' : Ut14.Package} (b : BI N g i p l g' p') {k n : Nat} (hk : k ∉ l.map (·.1)) {m : Ut14.Item} (hm : (p.items.find? fun y => y.key == k) = some m) :
    (p'.items.find? fun y => y.key == k) = some m ∧ Ut14.says g' p'.tongue k m.text = Ut14.says g p.tongue k m.text ∧ BI N g i p (l ++ [(k, n)]) (Ut14.backOne g' p' m n) { p' with items := rebase k n p'.items } := by
  have hm' : (p'.items.find? fun y => y.key == k) = some m := by rw [b.it k hk, hm]
  have mk := find_key hm
  have sy : Ut14.says g' p'.tongue k m.text = Ut14.says g p.tongue k m.text := by
    unfold Ut14.says
    rw [b.tg, b.wk k hk]
  have le : (l ++ [(k, n)]).length = l.length + 1 := by rw [List.length_append, List.length_singleton]
  refine ⟨hm', sy, ?_⟩
  have eq := backOne_eq g' p' m n (Ut14.fate (Ut14.says g p.tongue k m.text) m.base n) (by rw [mk, sy])
  have okk := ok_backOne b.ok b.at_ mk n
  have nm : ∀ j, j ∉ (l ++ [(k, n)]).map (·.1) → j ∉ l.map (·.1) ∧ j ≠ k := fun j hj => by
    rw [List.map_append, List.mem_append, not_or] at hj
    exact ⟨hj.1, fun z => hj.2 (by rw [z]; exact List.mem_singleton.mpr rfl)⟩
  refine ⟨by rw [le]; exact okk, ?_, b.tg, ?_, ?_, ?_, ?_⟩
  · rw [eq]
    dsimp only
    rw [mk]
    exact repack_here b.ok.num b.at_
  · exact (rebase_map (·.key) (fun _ _ => rfl) k n p'.items).trans b.ks
  · intro j hj x
    obtain ⟨h1, h2⟩ := nm j hj
    rw [eq]
    dsimp only
    split
    · rw [mk, workOf_put _ _ _ _ _ _ _ _ (fun z => h2 z.2.1.symm)]
      exact b.wk j h1 x
    · exact b.wk j h1 x
  · intro j hj
    obtain ⟨h1, h2⟩ := nm j hj
    rw [rebase_find k n j h2]
    exact b.it j h1
  · rw [eq]
    dsimp only
    have e1 : grB g p (l ++ [(k, n)]) = grB g p l + grOne g p (k, n) := by
      unfold grB
      rw [List.map_append, List.sum_append, List.map_singleton, List.sum_singleton]
    have e2 : grOne g p (k, n) = if Ut14.fate (Ut14.says g p.tongue k m.text) m.base n = 2 then gr g.work p.tongue k m.text n else 0 := by
      unfold grOne
      rw [hm]
    have bl := b.len
    rw [e1, e2]
    split
    · rw [mk, put_len b.ok.wnd]
      have : gr g'.work p'.tongue k m.text n = gr g.work p.tongue k m.text n := by
        unfold gr
        rw [b.tg, b.wk k hk]
      rw [this]
      omega
    · omega
/-- behind the first j of l: where all keys are in the package, none twice -/
theorem back_upto {N : Nat} {g : Ut14.House} (h : Ok N g) {i : Nat} {p : Ut14.Package} (hp : g.packages[i]? = some p) (l : List (Nat × Nat)) (hn : (l.map (·.1)).Nodup) (ha : ∀ kn ∈ l, ∃ m, (p.items.find? fun y => y.key == kn.1) = some m) :
    ∀ j, j ≤ l.length → (Ut14.backFrom i g (l.take j)).2.length = j ∧ ∃ p', BI N g i p (l.take j) (Ut14.backFrom i g (l.take j)).1 p'
  | 0, _ => by
    rw [List.take_zero]
    exact ⟨rfl, p, BI.start h hp⟩
  | j + 1, hj => by
    obtain ⟨h1, p', b⟩ := back_upto h hp l hn ha j (Nat.le_of_succ_le hj)
    have hlt : j < l.length := hj
    have e : l[j]? = some l[j] := List.getElem?_eq_getElem hlt
    rw [take_more e]
    generalize hkn : l[j] = kn at e
    obtain ⟨k, n⟩ := kn
    obtain ⟨m, hm⟩ := ha (k, n) (List.mem_of_getElem? e)
    have hk : k ∉ (l.take j).map (·.1) := by
      rw [List.map_take]
      exact not_mem_take hn (by rw [List.getElem?_map, e]; rfl)
    obtain ⟨hm', sy, b'⟩ := b.step (n := n) hk hm
    rw [backFrom_snoc, pkOf b.ok.num, b.at_]
    rw [Option.bind_some, hm']
    refine ⟨?_, _, b'⟩
    show (_ ++ [_]).length = _
    rw [List.length_append, List.length_singleton, h1]
end Tof

namespace Tof
open PySem PySem.Spec PyProof.Rows L2
abbrev sTake : Stmt := inClass cRc 10
abbrev sRefus : Stmt := inClass cRc 11
abbrev sGrB : Stmt := inClass cRc 12
/-! ### a list of pairs -/
def PrT (H : Hp) (pr : Nat × Nat) (t : Addr) : Prop := H t = some (.tup [nV pr.1, nV pr.2])
theorem paired_at {α β : Type} {R : α → β → Prop} : ∀ {l : List α} {ts : List β} {i : Nat} {t : β}, Paired R l ts → ts[i]? = some t → ∃ x, l[i]? = some x ∧ R x t
  | _, _, _, _, .nil, h => by simp at h
  | _, _, 0, t, .cons r p, h => by
    have e := Option.some.inj h
    subst e
    exact ⟨_, rfl, r⟩
  | _, _, i + 1, t, .cons r p, h => paired_at p (i := i) h
theorem paired_len {α β : Type} {R : α → β → Prop} : ∀ {l : List α} {ts : List β}, Paired R l ts → l.length = ts.length
  | _, _, .nil => rfl
  | _, _, .cons _ p => congrArg (· + 1) (paired_len p)
theorem prs_at {H : Hp} {l : List (Nat × Nat)} {ts : List Addr} (p : Paired (PrT H) l ts) {i : Nat} {y : V} (h : (ts.map V.ref)[i]? = some y) : ∃ k n t, l[i]? = some (k, n) ∧ y = .ref t ∧ H t = some (.tup [nV k, nV n]) := by
  rw [List.getElem?_map] at h
  cases e : ts[i]? with
  | none =>
    rw [e] at h
    cases h
  | some t =>
    rw [e] at h
    obtain ⟨⟨k, n⟩, h1, h2⟩ := paired_at p e
    exact ⟨k, n, t, h1, (Option.some.inj h).symm, h2⟩
def PrsAt (H : Hp) (b : Addr) (l : List (Nat × Nat)) : Prop := ∃ ts : List Addr, H b = some (.lst (ts.map V.ref)) ∧ Paired (PrT H) l ts
theorem PrsAt.same {H H' : Hp} {b : Addr} {l : List (Nat × Nat)} (s : Same H H') (h : PrsAt H b l) : PrsAt H' b l := by
  obtain ⟨ts, e1, e2⟩ := h
  exact ⟨ts, s _ _ e1, Paired.mapP e2 fun _ _ z => s _ _ z⟩
abbrev gPr (K : PySem.W.Frag) (i j : Nat) : TG := gTup K 2 (gCons (gName i) (gCons (gName j) gNil))
/-- [e for a, b in pairs], e a value of the pair that leaves the heap as it is -/
theorem lc_prs {K : PySem.W.Frag} {H : Hp} {b : Addr} {l : List (Nat × Nat)} {ts : List Addr} (hb : H b = some (.lst (ts.map V.ref))) (hp : Paired (PrT H) l ts) (few : l.length ≤ 1000) (f : Nat × Nat → V) {te : TE} {σ : L2.St} {i j : Nat} {Qd : Addr → Hp → Prop}
    (hw : ∀ k n : V, wipe (((wipe σ [i, j]).set i (some k)).set j (some n)) [i, j] = wipe σ [i, j])
    (he : ∀ (k n : Nat) (H' : Hp) (R : VK), Same H H' → (k, n) ∈ l → R (f (k, n)) H' → te (((wipe σ [i, j]).set i (some (nV k))).set j (some (nV n))) H' R)
    (q : ∀ D, H D = none → Qd D (upd H D (.lst (l.map f)))) (D : Addr) (hD : H D = none) :
    ∃ W : Nat → Nat → Hp → Prop, (∃ m, W 0 m (upd H D (.lst []))) ∧ ∀ r m H, W r m H →
      ((Itl K b).stop r H ∧ Qd D H) ∨ ((Itl K b).go r H ∧ ∃ Nx : Hp → Prop, (∀ H', Nx H' → ∃ m', m' < m ∧ W (r + 1) m' H') ∧ ∀ x H', (Itl K b).yld r H x H' → gPr K i j x (wipe σ [i, j]) H' fun σ2 H2 => wipe σ2 [i, j] = wipe σ [i, j] ∧ tYes σ2 H2 fun c H3 =>
        if c = true then te σ2 H3 fun y H4 => ∃ acc, H4 D = some (.lst acc) ∧ acc.length < sizeLine ∧ Nx (upd H4 D (.lst (acc ++ [y]))) else Nx H3) := by
  refine lc_list (K := K) (a := b) (xs := ts.map V.ref) (vs := [i, j]) (fun r H' => H' = upd H D (.lst ((l.take r).map f))) rfl (fun r H' _ e => ?_) ?_ ?_
  · rw [e]
    exact SqL.of (upd_new hD _ _ hb)
  · rintro r y H' hr rfl
    obtain ⟨k, n, t, h1, rfl, h2⟩ := prs_at hp hr
    refine ⟨t, _, rfl, SqT.of (upd_new hD _ _ h2), rfl, _, _, rfl, _, _, rfl, rfl, hw _ _, ?_⟩
    unfold tYes
    dsimp only
    rw [if_pos rfl]
    refine he k n _ _ (upd_new hD) (List.mem_of_getElem? h1) ⟨_, upd_same, small1000 ?_, ?_⟩
    · rw [List.length_map, List.length_take]
      omega
    · rw [upd_upd, take_more h1, List.map_append]
      rfl
  · intro H' e
    rw [List.length_map, ← paired_len hp, List.take_length] at e
    rw [e]
    exact q D hD
section
variable {P : Program} {w : World} {K : PySem.W.Frag} {mg : Str → Option Value} {base : Heap} {C CP : Addr}
/-! ### growth_by_back -/
def spGrB (C CP : Addr) : Sp := fun vs H Q _ => ∃ (L : Lay) (ro : Addr → Rl) (g : Ut14.House) (i : Nat) (pa : Addr) (p : Ut14.Package) (b : Addr) (l : List (Nat × Nat)), vs = [.ref L.a, .ref pa, .ref b] ∧ At C CP L ro H g ∧ PkAt CP ro H i pa p ∧ PrsAt H b l ∧ (∀ kn ∈ l, ∃ m, (p.items.find? fun y => y.key == kn.1) = some m) ∧
  ∀ H', Same H H' → Q (.int (grB g p l)) H'
theorem PkAt.same {ro : Addr → Rl} {H H' : Hp} {i : Nat} {pa : Addr} {p : Ut14.Package} (s : Same H H') (h : PkAt CP ro H i pa p) : PkAt CP ro H' i pa p := by
  obtain ⟨dx, dt, db, e1, e2, e3, e4, e5, e6⟩ := h
  exact ⟨dx, dt, db, s _ _ e1, e2, s _ _ e3, e4, s _ _ e5, e6⟩
theorem scGrB : FnScope ["self", "package", "pairs", "growth", "key", "theirs"] ["self", "package", "pairs"] (defScope sGrB) := ⟨rfl, rfl, rfl, by decide +kernel, rfl, by decide +kernel, by decide +kernel⟩
theorem ok_grB {f : Addr} {fd : FuncData} (F : Fun K "growth_by_back" "Records.growth_by_back" sGrB f fd) (T : Txt K mg C CP) (GP : GCal P w K mg base "sent_place" 1 ["package", "key"] (spPlace CP)) (MO : MCal P w K mg base C "outcome_of" 2 ["self", "package", "key", "theirs"] (spOutcome C CP))
    (M2 : MCal P w K mg base C "growth_at" 1 ["self", "place", "translation"] (spGrowth C CP)) : FnOk P w K mg base CX0 3 f fd ["self", "package", "pairs"] (spGrB C CP) := by
  obtain ⟨f1, fd1, g1, k1, F1, b1⟩ := GP
  obtain ⟨f2, fd2, m2, F2, b2⟩ := MO
  obtain ⟨f4, fd4, m4, F4, b4⟩ := M2
  refine F.ok scGrB (fun vs H Q E h => ?_) (fun cdv A outer s H vs Q E hr h => ⟨_, pss_cons
    (ps_set (i := 3) scGrB.nd rfl (Or.inl rfl) pe_int)
    (pss_cons (ps_for PassesOwn.never rfl (pi_list (pv 2)) (pg_tup rfl (pgs_cons (pg_name (i := 4) scGrB.nd rfl (Or.inl rfl)) (pgs_cons (pg_name (i := 5) scGrB.nd rfl (Or.inl rfl)) pgs_nil)))
      (pss_one (ps_if (pt_cmpR op_eq (pe_meth (pv 0) T.cl m2 F2 hr b2 .nil pass0 (pa_cons (pv 1) (pa_cons (pv 4) (pa_cons (pv 5) pa_nil)))) (pe_gi T.TAKEN) (nomark _))
        (pss_one (ps_aug (i := 3) scGrB.nd rfl (Or.inl rfl) (pe_meth (pv 0) T.cl m4 F4 (hr.mono (by decide)) b4 .nil pass0 (pa_cons (pe_call F1 (hr.mono (by decide)) rfl g1 k1 b1 .nil pass0 (pa_cons (pv 1) (pa_cons (pv 4) pa_nil))) (pa_cons (pv 5) pa_nil))) ip_add)) pss_nil)))
    (pss_one (ps_ret (pv 3)))), ?_⟩)
  · obtain ⟨L, ro, g, i, pa, p, b, l, rfl, _⟩ := h
    rfl
  · obtain ⟨L, ro, g, i, pa, p, b, l, rfl, hA, hp, ⟨ts, hb, hpr⟩, hall, q⟩ := h
    refine ⟨_, rfl, b, rfl, ⟨_, SqL.of hb⟩, for_list (K := K) (a := b) (xs := ts.map V.ref) (fun j σ H' => ∃ v4 v5 : Option V, σ = [some (.ref L.a), some (.ref pa), some (.ref b), some (.int (grB g p (l.take j))), v4, v5] ∧ Same H H')
      ⟨none, none, rfl, Same.refl H⟩ (fun j σ H' _ ⟨_, _, _, s5⟩ => SqL.of (s5 _ _ hb)) ?_ ?_⟩
    · rintro j y σ H' hj ⟨v4, v5, rfl, s5⟩
      obtain ⟨k, n, t, h1, rfl, h2⟩ := prs_at hpr hj
      obtain ⟨m, hm⟩ := hall (k, n) (List.mem_of_getElem? h1)
      have hA5 := hA.same s5
      have e1 : grB g p (l.take (j + 1)) = grB g p (l.take j) + grOne g p (k, n) := by
        unfold grB
        rw [take_more h1, List.map_append, List.sum_append, List.map_singleton, List.sum_singleton]
      have e2 : grOne g p (k, n) = if Ut14.fate (Ut14.says g p.tongue k m.text) m.base n = 2 then gr g.work p.tongue k m.text n else 0 := by
        unfold grOne
        rw [hm]
      refine ⟨t, _, rfl, SqT.of (s5 _ _ h2), rfl, _, _, rfl, _, _, rfl, rfl, ?_⟩
      refine ⟨_, rfl, L.a, L.dx, _, rfl, hA5.hA, rF_none (by decide +kernel), _, rfl, _, rfl, _, rfl, L, ro, g, i, pa, p, k, n, m, rfl, hA5, hp.same s5, hm, fun H6 s6 => ?_⟩
      refine ⟨rfl, _, rfl, ?_⟩
      have s7 := s5.trans s6
      have z := vint_eq (Ut14.fate (Ut14.says g p.tongue k m.text) m.base n) 2
      by_cases c : Ut14.fate (Ut14.says g p.tongue k m.text) m.base n = 2
      · rw [if_pos c] at e2
        rw [decide_eq_true c] at z
        refine if_true_of z ?_
        have hA7 := hA.same s7
        refine ⟨_, rfl, _, rfl, L.a, L.dx, _, rfl, hA7.hA, rF_none (by decide +kernel), _, rfl, _, rfl, ro, i, pa, p, k, m, rfl, hp.same s7, hm, fun b8 nb => ?_⟩
        refine ⟨_, rfl, L, ro, g, b8, p.tongue, k, m.text, n, rfl, hA7.new nb, upd_same, ?_⟩
        refine ⟨_, _, rfl, rfl, some (nV k), some (nV n), ?_, s7.trans (upd_new nb)⟩
        rw [e1, e2]
        rfl
      · rw [if_neg c] at e2
        rw [decide_eq_false c] at z
        refine if_false_of z ?_
        refine ⟨some (nV k), some (nV n), ?_, s7⟩
        rw [e1, e2, Int.add_zero]
        rfl
    · rintro σ H' ⟨v4, v5, rfl, s5⟩
      rw [List.length_map, ← paired_len hpr, List.take_length]
      exact ⟨_, rfl, q H' s5⟩
/-! ### refusal_of_back -/
theorem all_in {p : Ut14.Package} {l : List (Nat × Nat)} : (l.all fun x => p.items.any fun y => y.key == x.1) = true ↔ ∀ kn ∈ l, ∃ m, (p.items.find? fun y => y.key == kn.1) = some m := by
  rw [List.all_eq_true]
  refine forall_congr' fun kn => forall_congr' fun _ => ?_
  rw [← Option.isSome_iff_exists, List.find?_isSome, List.any_eq_true]
def spRefus (C CP : Addr) : Sp := fun vs H Q _ => ∃ (L : Lay) (ro : Addr → Rl) (g : Ut14.House) (N num : Nat) (b : Addr) (l : List (Nat × Nat)), vs = [.ref L.a, nV num, .ref b] ∧ At C CP L ro H g ∧ Ok N g ∧ PrsAt H b l ∧ l.length ≤ 1000 ∧
  ∀ H' z, Same H H' → (z < 0 → Ut14.step g (.back num l) = (g, [z])) →
    (¬ z < 0 → ∃ p, g.packages[num]? = some p ∧ (l.map (·.1)).Nodup ∧ l.length ≤ 6 ∧ (∀ kn ∈ l, ∃ m, (p.items.find? fun y => y.key == kn.1) = some m) ∧
      Ut14.step g (.back num l) = ((Ut14.backFrom num g l).1, Ut14.ints (((Ut14.backFrom num g l).2.filter fun f => f == 2).length :: (Ut14.backFrom num g l).2))) → Q (.int z) H'
theorem scRefus : FnScope ["self", "number", "pairs", "package", "key", "theirs"] ["self", "number", "pairs"] (defScope sRefus) := ⟨rfl, rfl, rfl, by decide +kernel, rfl, by decide +kernel, by decide +kernel⟩
theorem ok_refus {f : Addr} {fd : FuncData} (F : Fun K "refusal_of_back" "Records.refusal_of_back" sRefus f fd) (T : Txt K mg C CP) (GF : GCal P w K mg base "fits_a_package" 1 ["chosen"] (spFits K))
    (M3 : MCal P w K mg base C "too_much_work" 1 ["self", "growth"] (spTooMuch C CP)) (M5 : MCal P w K mg base C "growth_by_back" 3 ["self", "package", "pairs"] (spGrB C CP)) : FnOk P w K mg base CX0 4 f fd ["self", "number", "pairs"] (spRefus C CP) := by
  obtain ⟨f1, fd1, g1, k1, F1, b1⟩ := GF
  obtain ⟨f3, fd3, m3, F3, b3⟩ := M3
  obtain ⟨f5, fd5, m5, F5, b5⟩ := M5
  refine F.ok scRefus (fun vs H Q E h => ?_) (fun cdv A outer s H vs Q E hr h => ⟨_, pss_cons
    (ps_if (pt_not (pt_val (pe_call F1 (hr.mono (by decide)) rfl g1 k1 b1 .nil pass0 (pa_cons (pe_lc (own := [("key", 4), ("theirs", 5)]) (g := gPr K 4 5) (tt := tYes) (te := tVar 4) rfl scRefus.nd (pi_list (pv 2)) (blkOk_by (own := [("key", 4), ("theirs", 5)]) (N := ["self", "number", "pairs", "package", "key", "theirs"]) (sc := defScope sRefus) (by decide +kernel))
      (fun _ _ _ _ _ => pg_tup rfl (pgs_cons (pg_name (i := 4) scRefus.nd rfl (Or.inl rfl)) (pgs_cons (pg_name (i := 5) scRefus.nd rfl (Or.inl rfl)) pgs_nil))) (fun _ _ _ _ _ => pts_nil) (fun _ _ _ _ _ => pv 4)) pa_nil)))) (pss_one (ps_ret (pe_gi T.NOT_AS_TOLD))) pss_nil)
    (pss_cons (ps_if (pt_val (pe_callB (cr_any rfl) (by rfl) T.any (by decide +kernel) (pa_cons (pe_lc (own := [("key", 4), ("theirs", 5)]) (g := gPr K 4 5) (tt := tYes) (te := tOp (rI0 fun i j => .bl (decide (j < i))) (tVar 5) (tC (.int 999))) rfl scRefus.nd (pi_list (pv 2)) (blkOk_by (own := [("key", 4), ("theirs", 5)]) (N := ["self", "number", "pairs", "package", "key", "theirs"]) (sc := defScope sRefus) (by decide +kernel))
      (fun _ _ _ _ _ => pg_tup rfl (pgs_cons (pg_name (i := 4) scRefus.nd rfl (Or.inl rfl)) (pgs_cons (pg_name (i := 5) scRefus.nd rfl (Or.inl rfl)) pgs_nil))) (fun _ _ _ _ _ => pts_nil) (fun _ _ _ _ _ => pe_cmpR op_gt (pv 5) (pe_gi T.LAST_TRANSLATION) (nomark _))) pa_nil))) (pss_one (ps_ret (pe_gi T.NOT_AS_TOLD))) pss_nil)
    (pss_cons (ps_if (pt_cmpR op_ge (pv 1) (pe_callB call_len_seq (by rfl) T.len PySem.boot_len (pa_cons (pe_fld (pv 0) rfl) pa_nil)) (nomark _)) (pss_one (ps_ret (pe_gi T.MISSING))) pss_nil)
    (pss_cons (ps_set (i := 3) scRefus.nd rfl (Or.inr rfl) (pe_ix ix_list (pe_fld (pv 0) rfl) (pv 1) (fun _ _ => rfl)))
    (pss_cons (ps_if (pt_val (pe_callB (cr_any rfl) (by rfl) T.any (by decide +kernel) (pa_cons (pe_lc (own := [("key", 4), ("theirs", 5)]) (g := gPr K 4 5) (tt := tYes) (te := tDNotIn (tVar 4) (tFld K (tVar 3) "texts")) rfl scRefus.nd (pi_list (pv 2)) (blkOk_by (own := [("key", 4), ("theirs", 5)]) (N := ["self", "number", "pairs", "package", "key", "theirs"]) (sc := defScope sRefus) (by decide +kernel))
      (fun _ _ _ _ _ => pg_tup rfl (pgs_cons (pg_name (i := 4) scRefus.nd rfl (Or.inl rfl)) (pgs_cons (pg_name (i := 5) scRefus.nd rfl (Or.inl rfl)) pgs_nil))) (fun _ _ _ _ _ => pts_nil) (fun _ _ _ _ _ => pe_cmp (pc_dnotin (hu_of hr) (pv 4) (pe_fld (pv 3) rfl)) rfl)) pa_nil))) (pss_one (ps_ret (pe_gi T.NOT_IN_PACKAGE))) pss_nil)
    (pss_cons (ps_if (pt_val (pe_meth (pv 0) T.cl m3 F3 (hr.mono (by decide)) b3 .nil pass0 (pa_cons (pe_meth (pv 0) T.cl m5 F5 hr b5 .nil pass0 (pa_cons (pv 3) (pa_cons (pv 2) pa_nil))) pa_nil))) (pss_one (ps_ret (pe_gi T.FULL))) pss_nil)
    (pss_one (ps_ret pe_int))))))), ?_⟩)
  · obtain ⟨L, ro, g, N, num, b, l, rfl, _⟩ := h
    rfl
  · obtain ⟨L, ro, g, N, num, b, l, rfl, hA, hO, ⟨ts, hb, hpr⟩, few, q⟩ := h
    have neg : ∀ {z : Int} {e : Ut14.House × List Int}, z < 0 → (¬ z < 0 → ∃ p, g.packages[num]? = some p ∧ (l.map (·.1)).Nodup ∧ l.length ≤ 6 ∧ (∀ kn ∈ l, ∃ m, (p.items.find? fun y => y.key == kn.1) = some m) ∧ Ut14.step g (.back num l) = e) := fun h n => absurd h n
    have ln : (l.map (·.1)).length = l.length := List.length_map ..
    refine ⟨_, rfl, b, rfl, ⟨_, SqL.of hb⟩, lc_prs hb hpr few (fun kn => nV kn.1) (fun _ _ => rfl) (fun k n H' R s m r => ⟨_, rfl, r⟩) fun D1 hD1 => ?_⟩
    refine ⟨D1, l.map (·.1), rfl, SqL.of (by rw [upd_same, List.map_map]; rfl), _, rfl, ?_⟩
    have s1 := upd_new (o := .lst (l.map fun kn => nV kn.1)) hD1
    generalize upd H D1 (.lst (l.map fun kn => nV kn.1)) = H1 at s1
    cases c1 : fits (l.map (·.1)) with
    | false =>
      refine if_true_of (by rfl) (q H1 (-1) s1 (fun _ => if_pos ?_) (neg (by decide)))
      by_cases d1 : l = []
      · exact .inl d1
      by_cases d2 : 6 < l.length
      · exact .inr (.inl d2)
      refine .inr (.inr (.inr ?_))
      have := (twice_iff (l.map (·.1))).mpr fun d3 => by
        have d4 : 1 ≤ l.length := by
          cases l with
          | nil => exact absurd rfl d1
          | cons _ _ => exact Nat.succ_le_succ (Nat.zero_le _)
        unfold fits at c1
        rw [ln, decide_eq_true d4, decide_eq_true (show l.length ≤ 6 by omega), decide_eq_true d3] at c1
        cases c1
      rw [ln] at this
      exact this
    | true =>
      refine if_false_of (by rfl) ?_
      unfold fits at c1
      rw [Bool.and_eq_true, Bool.and_eq_true, decide_eq_true_iff, decide_eq_true_iff, decide_eq_true_iff, ln] at c1
      obtain ⟨d1, d2, nd⟩ := c1
      have hb1 := s1 _ _ hb
      have hpr1 : Paired (PrT H1) l ts := Paired.mapP hpr fun _ _ z => s1 _ _ z
      refine ⟨_, rfl, b, rfl, ⟨_, SqL.of hb1⟩, lc_prs hb1 hpr1 few (fun kn => V.bl (decide ((999 : Int) < kn.2))) (fun _ _ => rfl) (fun k n H' R s m r => ⟨_, rfl, _, _, rfl, rfl, r⟩) fun D2 hD2 => ?_⟩
      refine ⟨D2, l.map (fun kn => decide ((999 : Int) < kn.2)), rfl, SqL.of (by rw [upd_same, List.map_map]; rfl), _, rfl, ?_⟩
      have s2 := s1.trans (upd_new (o := .lst (l.map fun kn => V.bl (decide ((999 : Int) < kn.2)))) hD2)
      generalize upd H1 D2 (.lst (l.map fun kn => V.bl (decide ((999 : Int) < kn.2)))) = H2 at s2
      have ean : (l.map (fun kn => decide ((999 : Int) < kn.2))).any id = !(l.all fun x => decide (x.2 ≤ 999)) := by
        rw [List.any_map, List.not_all_eq_any_not]
        congr 1
        funext kn
        show decide ((999 : Int) < kn.2) = !decide (kn.2 ≤ 999)
        by_cases c : kn.2 ≤ 999
        · rw [decide_eq_true c, decide_eq_false (by omega)]
          rfl
        · rw [decide_eq_false c, decide_eq_true (by omega)]
          rfl
      rw [ean]
      cases c2 : (l.all fun x => decide (x.2 ≤ 999)) with
      | false => exact if_true_of (by rfl) (q H2 (-1) s2 (fun _ => if_pos (.inr (.inr (.inl c2)))) (neg (by decide)))
      | true =>
        refine if_false_of (by rfl) ?_
        have n1 : ¬ (l = [] ∨ 6 < l.length ∨ (l.all fun x => decide (x.2 ≤ 999)) = false ∨ (l.map fun x => x.1).eraseDups.length ≠ l.length) := by
          rintro (z | z | z | z)
          · rw [z] at d1
            exact absurd d1 (by decide)
          · omega
          · rw [c2] at z
            cases z
          · exact (twice_iff (l.map fun x => x.1)).mp (by rw [ln]; exact z) nd
        have hA2 := hA.same s2
        obtain ⟨pas, hp, hpl, hpk⟩ := hA2.hP
        refine ⟨_, rfl, _, rfl, L.a, C, L.dx, _, _, rfl, hA2.hA, T.cl, T.nP, rF_packages, L.lP, _, rfl, .inl (SqL.of hp), _, _, rfl, rfl, _, rfl, ?_⟩
        have pl : (pas.map V.ref).length = g.packages.length := by rw [List.length_map, hpl]
        have po := pkOf hO.num num
        rw [pl]
        cases c3 : g.packages[num]? with
        | none =>
          have := List.getElem?_eq_none_iff.mp c3
          refine if_true_of (decide_eq_true (by omega)) (q H2 (-2) s2 (fun _ => (if_neg n1).trans ?_) (neg (by decide)))
          rw [po, c3]
        | some p =>
          have hlt := (List.getElem?_eq_some_iff.mp c3).1
          refine if_false_of (decide_eq_false (by omega)) ?_
          obtain ⟨pa, q1, pk⟩ := hpk num p c3
          obtain ⟨dxp, dt, db, a1, a2, a3, a4, a5, a6⟩ := id pk
          have st : Ut14.step g (.back num l) = if (l.all fun x => p.items.any fun y => y.key == x.1) = false then (g, [-3]) else
              if 60 < (Ut14.backFrom num g l).1.work.length then (g, [-5]) else ((Ut14.backFrom num g l).1, Ut14.ints (((Ut14.backFrom num g l).2.filter fun f => f == 2).length :: (Ut14.backFrom num g l).2)) := by
            refine (if_neg n1).trans ?_
            rw [po, c3]
          refine ⟨_, rfl, L.a, C, L.dx, _, _, rfl, hA2.hA, T.cl, T.nP, rF_packages, _, rfl, L.lP, _, _, V.ref pa, rfl, rfl, SqL.of hp, atI_nat (by rw [List.getElem?_map, q1]; rfl), ?_⟩
          have hb2 := s2 _ _ hb
          have hpr2 : Paired (PrT H2) l ts := Paired.mapP hpr fun _ _ z => s2 _ _ z
          refine ⟨_, rfl, b, rfl, ⟨_, SqL.of hb2⟩, lc_prs hb2 hpr2 few (fun kn => V.bl (!(p.items.any fun y => y.key == kn.1))) (fun _ _ => rfl) (fun k n H' R s m r => ⟨_, rfl, _, rfl, pa, CP, dxp, _, _, rfl, s _ _ a1, T.clP, T.nTx, pF_texts, dt, _, rfl, DGet.k (k := nK k) (s _ _ a3), ?_⟩) fun D3 hD3 => ?_⟩
          · rw [val_texts]
            have : ((p.items.find? fun y => y.key == k).map fun y => nV y.text).isSome = p.items.any fun y => y.key == k := by
              rw [Option.isSome_map, Bool.eq_iff_iff, List.find?_isSome, List.any_eq_true]
            rw [this]
            exact r
          · refine ⟨D3, l.map (fun kn => !(p.items.any fun y => y.key == kn.1)), rfl, SqL.of (by rw [upd_same, List.map_map]; rfl), _, rfl, ?_⟩
            have s3 := s2.trans (upd_new (o := .lst (l.map fun kn => V.bl (!(p.items.any fun y => y.key == kn.1)))) hD3)
            have s23 := upd_new (o := .lst (l.map fun kn => V.bl (!(p.items.any fun y => y.key == kn.1)))) hD3
            generalize upd H2 D3 (.lst (l.map fun kn => V.bl (!(p.items.any fun y => y.key == kn.1)))) = H3 at s3 s23
            have ean3 : (l.map (fun kn => !(p.items.any fun y => y.key == kn.1))).any id = !(l.all fun x => p.items.any fun y => y.key == x.1) := by
              rw [List.any_map, List.not_all_eq_any_not]
              rfl
            rw [ean3]
            cases c4 : (l.all fun x => p.items.any fun y => y.key == x.1) with
            | false => exact if_true_of (by rfl) (q H3 (-3) s3 (fun _ => st.trans (if_pos c4)) (neg (by decide)))
            | true =>
              refine if_false_of (by rfl) ?_
              have al := all_in.mp c4
              have hA3 := hA.same s3
              refine ⟨_, rfl, L.a, L.dx, _, rfl, hA3.hA, rF_none (by decide +kernel), _, rfl, L.a, L.dx, _, rfl, hA3.hA, rF_none (by decide +kernel), _, rfl, _, rfl, L, ro, g, num, pa, p, b, l, rfl, hA3, pk.same s23, (PrsAt.same s3 ⟨ts, hb, hpr⟩), al, fun H4 s4 => ?_⟩
              have s5 := s3.trans s4
              refine ⟨L, ro, g, _, rfl, hA.same s5, _, rfl, ?_⟩
              obtain ⟨_, p', bi⟩ := back_upto hO c3 l nd al l.length (Nat.le_refl _)
              rw [List.take_length] at bi
              have bl := bi.len
              by_cases c5 : 60 < (Ut14.backFrom num g l).1.work.length
              · refine if_true_of (decide_eq_true (by omega)) (q H4 (-5) s5 (fun _ => (st.trans (if_neg (by rw [c4]; exact nofun))).trans (if_pos c5)) (neg (by decide)))
              · refine if_false_of (decide_eq_false (by omega)) (q H4 0 s5 (fun z => absurd z (by decide)) fun _ => ⟨p, c3, nd, d2, al, (st.trans (if_neg (by rw [c4]; exact nofun))).trans (if_neg c5)⟩)
end
end Tof

namespace Tof
open PySem PySem.Spec PyProof.Rows L2
theorem count_two (l : List Nat) : (l.map fun (n : Nat) => (n : Int)).count 2 = (l.filter fun f => f == 2).length := by
  unfold List.count
  rw [List.countP_map, List.countP_eq_length_filter]
  congr 2
  funext n
  show ((n : Int) == 2) = (n == 2)
  by_cases c : n = 2
  · subst c
    rfl
  · rw [beq_false_of_ne c, beq_false_of_ne (by omega)]
section
variable {P : Program} {w : World} {K : PySem.W.Frag} {mg : Str → Option Value} {base : Heap} {C CP : Addr}
/-! ### take_back -/
def spTake (C CP : Addr) : Sp := fun vs H Q _ => ∃ (L : Lay) (ro : Addr → Rl) (g : Ut14.House) (N num : Nat) (b : Addr) (l : List (Nat × Nat)), vs = [.ref L.a, nV num, .ref b] ∧ At C CP L ro H g ∧ Ok N g ∧ N ≤ 900 ∧ PrsAt H b l ∧ ro b = .oth ∧ l.length ≤ 1000 ∧ Ans C CP L ro H g (.back num l) Q
theorem scTake : FnScope ["self", "number", "pairs", "refusal", "package", "outcomes", "key", "theirs"] ["self", "number", "pairs"] (defScope sTake) := ⟨rfl, rfl, rfl, by decide +kernel, rfl, by decide +kernel, by decide +kernel⟩
theorem ok_take {f : Addr} {fd : FuncData} (F : Fun K "take_back" "Records.take_back" sTake f fd) (T : Txt K mg C CP) (MR : MCal P w K mg base C "refusal_of_back" 4 ["self", "number", "pairs"] (spRefus C CP))
    (MS : MCal P w K mg base C "settle" 3 ["self", "package", "key", "theirs"] (spSettle C CP)) : FnOk P w K mg base CX0 5 f fd ["self", "number", "pairs"] (spTake C CP) := by
  obtain ⟨f1, fd1, m1, F1, b1⟩ := MR
  obtain ⟨f2, fd2, m2, F2, b2⟩ := MS
  refine F.ok scTake (fun vs H Q E h => ?_) (fun cdv A outer s H vs Q E hr h => ⟨_, pss_cons
    (ps_set (i := 3) scTake.nd rfl (Or.inl rfl) (pe_meth (pv 0) T.cl m1 F1 hr b1 .nil pass0 (pa_cons (pv 1) (pa_cons (pv 2) pa_nil))))
    (pss_cons (ps_if (pt_cmpR op_lt (pv 3) pe_int (nomark _)) (pss_one (ps_ret (pe_lst (pa_cons (pv 3) pa_nil)))) pss_nil)
    (pss_cons (ps_set (i := 4) scTake.nd rfl (Or.inl rfl) (pe_ix ix_list (pe_fld (pv 0) rfl) (pv 1) (fun _ _ => rfl)))
    (pss_cons (ps_set (i := 5) scTake.nd rfl (Or.inl rfl) (pe_lst pa_nil))
    (pss_cons (ps_for PassesOwn.never rfl (pi_list (pv 2)) (pg_tup rfl (pgs_cons (pg_name (i := 6) scTake.nd rfl (Or.inl rfl)) (pgs_cons (pg_name (i := 7) scTake.nd rfl (Or.inl rfl)) pgs_nil)))
      (pss_one (ps_expr (pe_bm PySem.F.plainAttrs_list PySem.F.slot_list_append PySem.F.type_list_append mt_append (pv 5) (pa_cons (pe_meth (pv 0) T.cl m2 F2 (hr.mono (by decide)) b2 .nil pass0 (pa_cons (pv 4) (pa_cons (pv 6) (pa_cons (pv 7) pa_nil)))) pa_nil)))))
    (pss_one (ps_ret (pe_op op_cat (pe_lst (pa_cons (pe_bm PySem.F.plainAttrs_list PySem.F.slot_list_count PySem.F.type_list_count L2.mt_lcount (pv 5) (pa_cons (pe_gi T.TAKEN) pa_nil)) pa_nil)) (pv 5)))))))), ?_⟩)
  · obtain ⟨L, ro, g, N, num, b, l, rfl, _⟩ := h
    rfl
  · obtain ⟨L, ro, g, N, num, b, l, rfl, hA, hO, hN, hpr, rb, few, q⟩ := h
    refine ⟨_, rfl, L.a, L.dx, _, rfl, hA.hA, rF_none (by decide +kernel), _, rfl, _, rfl, L, ro, g, N, num, b, l, rfl, hA, hO, hpr, few, fun H1 z s1 hneg hgood => ?_⟩
    refine ⟨_, rfl, _, _, rfl, rfl, _, rfl, ?_⟩
    by_cases c1 : z < 0
    · refine if_true_of (decide_eq_true c1) ⟨_, rfl, by show 1 ≤ sizeLine; decide, fun p hp => ?_⟩
      exact q.no (hneg c1) hA s1 p hp
    refine if_false_of (decide_eq_false c1) ?_
    obtain ⟨p, hp, nd, l6, al, st⟩ := hgood c1
    obtain ⟨ts, hb, hprs⟩ := hpr
    have hA1 := hA.same s1
    obtain ⟨pas, hps, hpl, hpk⟩ := hA1.hP
    obtain ⟨pa, q1, pk⟩ := hpk num p hp
    have hxi : (pas.map V.ref)[num]? = some (.ref pa) := by rw [List.getElem?_map, q1]; rfl
    refine ⟨_, rfl, L.a, C, L.dx, _, _, rfl, hA1.hA, T.cl, T.nP, rF_packages, _, rfl, L.lP, _, _, V.ref pa, rfl, rfl, SqL.of hps, atI_nat hxi, ?_⟩
    refine ⟨by decide, fun o ho => ?_⟩
    have s2 := s1.trans (upd_new (o := .lst []) ho)
    have ro_o : ro o = .oth := hA.fresh o (s1.free ho)
    have up := back_upto hO hp l nd al
    -- the loop
    refine ⟨_, rfl, b, rfl, ⟨_, SqL.of (s2 _ _ hb)⟩, for_list (K := K) (a := b) (xs := ts.map V.ref) (fun j σ H' => ∃ v6 v7 : Option V, σ = [some (.ref L.a), some (nV num), some (.ref b), some (.int z), some (.ref pa), some (.ref o), v6, v7] ∧
        At C CP L ro H' (Ut14.backFrom num g (l.take j)).1 ∧ Mv ro H H' ∧ H' o = some (.lst ((Ut14.backFrom num g (l.take j)).2.map nV)) ∧ H' L.lP = some (.lst (pas.map V.ref)))
      ⟨none, none, rfl, hA.same s2, Mv.same s2, upd_same, upd_new ho _ _ hps⟩ (fun j σ H' _ ⟨_, _, _, _, mv, _⟩ => SqL.of (mv.fr _ _ hb rb)) ?_ ?_⟩
    · rintro j y σ H' hj ⟨v6, v7, rfl, hA5, mv, ho5, hx5⟩
      obtain ⟨k, n, t, h1, rfl, h2⟩ := prs_at hprs hj
      have hlt : j < l.length := (List.getElem?_eq_some_iff.mp h1).1
      obtain ⟨fl, p', bi⟩ := up j (Nat.le_of_lt hlt)
      obtain ⟨m, hm⟩ := al (k, n) (List.mem_of_getElem? h1)
      have hk : k ∉ (l.take j).map (·.1) := by
        rw [List.map_take]
        exact not_mem_take nd (by rw [List.getElem?_map, h1]; rfl)
      obtain ⟨hm', sy, b'⟩ := bi.step (n := n) hk hm
      have tl : (l.take j).length ≤ 6 := by rw [List.length_take]; omega
      have sn : Ut14.backFrom num g (l.take (j + 1)) = (Ut14.backOne (Ut14.backFrom num g (l.take j)).1 p' m n, (Ut14.backFrom num g (l.take j)).2 ++ [Ut14.fate (Ut14.says (Ut14.backFrom num g (l.take j)).1 p'.tongue k m.text) m.base n]) := by
        rw [take_more h1, backFrom_snoc, pkOf bi.ok.num, bi.at_, Option.bind_some, hm']
        rfl
      refine ⟨t, _, rfl, SqT.of (mv.tup _ _ h2), rfl, _, _, rfl, _, _, rfl, rfl, ?_⟩
      refine ⟨_, rfl, .inl ⟨rfl, _, SqL.of ho5⟩, _, rfl, L.a, L.dx, _, rfl, hA5.hA, rF_none (by decide +kernel), _, rfl, _, rfl, _, rfl, L, ro, _, num, pa, _, p', k, n, m, rfl, hA5, bi.ok.num, ?_, ?_, ?_, hx5, hxi, bi.at_, hm', fun H6 hA6 mv6 hx6 => ?_⟩
      · have := bi.ok.wlen
        omega
      · have := bi.ok.olen
        omega
      · exact bi.ok.pil p' (List.mem_of_getElem? bi.at_)
      · have ho6 := mv6.fr _ _ ho5 ro_o
        refine ⟨o, _, _, rfl, rfl, ho6, small1000 (by rw [List.length_map, fl]; omega), ?_⟩
        have mv7 : Mv ro H (upd H6 o (.lst ((Ut14.backFrom num g (l.take j)).2.map nV ++ [nV (Ut14.fate (Ut14.says (Ut14.backFrom num g (l.take j)).1 p'.tongue k m.text) m.base n)]))) := by
          have mvb := mv.trans mv6
          refine ⟨fun c u e r => ?_, fun c us e => ?_, fun c e => mvb.free c (upd_free e)⟩
          · rw [upd_ne (ne_of_none e (s1.free ho))]
            exact mvb.fr c u e r
          · rw [upd_ne (ne_of_none e (s1.free ho))]
            exact mvb.tup c us e
        refine ⟨some (nV k), some (nV n), rfl, ?_, mv7, ?_, ?_⟩
        · rw [sn]
          exact hA6.other ho6 trivial ro_o
        · rw [sn, upd_same, List.map_append]
          rfl
        · rw [upd_ne (fun z => by have := hA.rP; rw [z, ro_o] at this; cases this)]
          exact hx6
    · rintro σ H' ⟨v6, v7, rfl, hA5, mv, ho5, hx5⟩
      rw [List.length_map, ← paired_len hprs, List.take_length] at hA5 ho5
      have fl := (up l.length (Nat.le_refl _)).1
      rw [List.take_length] at fl
      have e1 : (Ut14.backFrom num g l).2.map nV = ((Ut14.backFrom num g l).2.map fun (n : Nat) => (n : Int)).map V.int := by
        rw [List.map_map]
        rfl
      refine ⟨_, rfl, .inl ⟨rfl, _, SqL.of ho5⟩, o, _, 2, rfl, rfl, SqL.of (by rw [← e1]; exact ho5), by show 1 ≤ sizeLine; decide, fun p1 hp1 => ?_⟩
      have ho6 := upd_new (o := .lst [V.int ((((Ut14.backFrom num g l).2.map fun (n : Nat) => (n : Int)).count 2 : Nat) : Int)]) hp1 _ _ ho5
      refine ⟨_, rfl, p1, o, _, _, rfl, rfl, upd_same, ho6, ?_, fun p2 hp2 => ?_⟩
      · have : ((Ut14.backFrom num g l).2.map nV).length ≤ 1000 := by rw [List.length_map, fl]; omega
        have : sizeLine = 16777216 := sizeLine_eq
        show 1 + _ ≤ _
        omega
      · have mv6 : Mv ro H _ := mv.trans (Mv.same (upd_new (o := .lst [V.int ((((Ut14.backFrom num g l).2.map fun (n : Nat) => (n : Int)).count 2 : Nat) : Int)]) hp1))
        have zz := q.done st (hA5.new hp1) mv6.toFr mv6.free p2 hp2
        rw [count_two] at hp2 ⊢
        rw [count_two] at zz
        have e2 : (Ut14.ints (((Ut14.backFrom num g l).2.filter fun f => f == 2).length :: (Ut14.backFrom num g l).2)).map V.int = [V.int ((((Ut14.backFrom num g l).2.filter fun f => f == 2).length : Nat) : Int)] ++ (Ut14.backFrom num g l).2.map nV := by
          unfold Ut14.ints
          rw [List.map_map]
          rfl
        rw [e2] at zz
        exact zz
end
end Tof

namespace Tof
open PySem PySem.Spec PyProof.Rows L2
abbrev sRel : Stmt := inClass cRc 16
abbrev sShown : Stmt := inClass cRc 17
/-! ### lines -/
theorem line_key (g : Ut14.House) (t : Nat) (e : Ut14.Entry) : (Ut14.lineOf g t e).1 = e.1 := by
  unfold Ut14.lineOf
  cases Ut14.workOf g.work t e.1 e.2 <;> rfl
theorem paired_keys {H : Hp} : ∀ {ls : List (Nat × Nat × Bool)} {es : List (L2.Key × V)}, Paired (LnAt H) ls es → es.map (·.1) = ls.map fun l => nK l.1
  | _, _, .nil => rfl
  | _, _, .cons ⟨t, e, _⟩ p => by
    rw [List.map_cons, List.map_cons, paired_keys p, e]
theorem paired_snoc {α β : Type} {R : α → β → Prop} : ∀ {l : List α} {m : List β} {a : α} {b : β}, Paired R l m → R a b → Paired R (l ++ [a]) (m ++ [b])
  | _, _, _, _, .nil, r => .cons r .nil
  | _, _, _, _, .cons q p, r => .cons q (paired_snoc p r)
theorem workOf_pos {g : Ut14.House} (h : ∀ w ∈ g.work, w.trans ≠ 0) {t k x n : Nat} (e : Ut14.workOf g.work t k x = some n) : n ≠ 0 := by
  unfold Ut14.workOf at e
  cases c : g.work.find? (fun w => w.tongue == t && (w.key == k && w.text == x)) with
  | none =>
    rw [c] at e
    cases e
  | some w =>
    rw [c] at e
    have e := Option.some.inj e
    rw [← e]
    exact h w (List.mem_of_find?_eq_some c)
theorem sorted_keys {src s : List Ut14.Entry} (hp : src.Perm s) (hs : Srt s) {ys : List Int} (h1 : ys.Perm (src.map fun e => (e.1 : Int))) (h2 : ys.Pairwise (· ≤ ·)) : ys = s.map fun e => (e.1 : Int) := by
  refine PySem.W.ksm_same (h1.trans (hp.map _)) h2 ?_
  rw [List.pairwise_map]
  exact hs.imp fun z => by omega
theorem text_of {s : List Ut14.Entry} (hs : Srt s) {i : Nat} {e : Ut14.Entry} (h : s[i]? = some e) : ((s.find? fun x => x.1 == e.1).map fun x => x.2) = some e.2 := by
  rw [(find_iff hs.nodup e.1 e).mpr ⟨List.mem_of_getElem? h, rfl⟩]
  rfl
section
variable {P : Program} {w : World} {K : PySem.W.Frag} {mg : Str → Option Value} {base : Heap} {C CP : Addr}
/-! ### shown_now -/
def spShown (C CP : Addr) : Sp := fun vs H Q _ => ∃ (L : Lay) (ro : Addr → Rl) (g : Ut14.House) (N t : Nat), vs = [.ref L.a, nV t] ∧ At C CP L ro H g ∧ Ok N g ∧
  ∀ H' rd es, Same H H' → H rd = none → H' rd = some (.dK es) → Paired (LnAt H') (Ut14.build g t) es → Q (.ref rd) H'
theorem scShown : FnScope ["self", "tongue", "shown", "key", "text", "translation"] ["self", "tongue"] (defScope sShown) := ⟨rfl, rfl, rfl, by decide +kernel, rfl, by decide +kernel, by decide +kernel⟩
theorem ok_shown {f : Addr} {fd : FuncData} (F : Fun K "shown_now" "Records.shown_now" sShown f fd) (T : Txt K mg C CP) (M2 : MCal P w K mg base C "work_at" 1 ["self", "place"] (spWorkAt C CP)) : FnOk P w K mg base CX0 2 f fd ["self", "tongue"] (spShown C CP) := by
  obtain ⟨f2, fd2, m2, F2, b2⟩ := M2
  refine F.ok scShown (fun vs H Q E h => ?_) (fun cdv A outer s H vs Q E hr h => ⟨_, pss_cons
    (ps_set (i := 2) scShown.nd rfl (Or.inl rfl) pe_dnewK)
    (pss_cons (ps_for PassesOwn.never rfl (pi_list (pe_callB (call_sortedDI rfl) (by rfl) T.sorted (by decide +kernel) (pa_cons (pe_fld (pv 0) rfl) pa_nil))) (pg_name (i := 3) scShown.nd rfl (Or.inl rfl))
      (pss_cons (ps_set (i := 4) scShown.nd rfl (Or.inl rfl) (pe_dget (hu_of hr) (pe_fld (pv 0) rfl) (pv 3) (fun _ _ => rfl)))
      (pss_cons (ps_set (i := 5) scShown.nd rfl (Or.inl rfl) (pe_meth (pv 0) T.cl m2 F2 hr b2 .nil pass0 (pa_cons (pe_tup (pa_cons (pv 1) (pa_cons (pv 3) (pa_cons (pv 4) pa_nil)))) pa_nil)))
      (pss_one (ps_if (pt_cmpR op_gt (pv 5) pe_int (nomark _)) (pss_one (ps_dput (hu_of hr) (pv 2) (pv 3) (pe_tup (pa_cons (pv 5) (pa_cons pe_int pa_nil))) rfl)) (pss_one (ps_dput (hu_of hr) (pv 2) (pv 3) (pe_tup (pa_cons (pv 4) (pa_cons pe_int pa_nil))) rfl)))))))
    (pss_one (ps_ret (pv 2)))), ?_⟩)
  · obtain ⟨L, ro, g, N, t, rfl, _⟩ := h
    rfl
  · obtain ⟨L, ro, g, N, t, rfl, hA, hO, q⟩ := h
    obtain ⟨src, hs, hperm⟩ := hA.hS
    have hv : ∀ k, valV (src.map eKV) (nK k) = (Ut14.textOf g k).map nV := val_src hperm hO.srt
    intro rd hrd
    have s1 := upd_new (o := .dK []) hrd
    have hA1 := hA.same s1
    refine ⟨_, rfl, L.a, C, L.dx, _, _, rfl, hA1.hA, T.cl, T.nS, rF_source, L.dS, _, src.map (fun e => (e.1 : Int)), rfl, .inl (s1 _ _ hs), by rw [List.map_map, List.map_map]; rfl, by rw [List.length_map, hperm.length_eq]; have := hO.slen; omega, fun ys p y1 y2 hp => ?_⟩
    have ey := sorted_keys hperm hO.srt y1 y2
    subst ey
    have s2 := s1.trans (upd_new (o := .lst ((g.source.map fun e => (e.1 : Int)).map V.int)) hp)
    have hp0 : H p = none := s1.free hp
    have nrp : rd ≠ p := fun z => by rw [z, upd_same] at hp; cases hp
    refine ⟨p, rfl, ⟨_, SqL.of upd_same⟩, for_list (K := K) (a := p) (xs := (g.source.map fun e => (e.1 : Int)).map V.int) (fun i σ H' => ∃ v3 v4 v5 : Option V, σ = [some (.ref L.a), some (nV t), some (.ref rd), v3, v4, v5] ∧ Same H H' ∧ H' p = some (.lst ((g.source.map fun e => (e.1 : Int)).map V.int)) ∧
        ∃ es, H' rd = some (.dK es) ∧ Paired (LnAt H') ((Ut14.build g t).take i) es)
      ⟨none, none, none, rfl, s2, upd_same, [], by rw [upd_ne nrp]; exact upd_same, by rw [List.take_zero]; exact .nil⟩ (fun i σ H' _ ⟨_, _, _, _, _, hp', _⟩ => SqL.of hp') ?_ ?_⟩
    · rintro i y σ H' hi ⟨v3, v4, v5, rfl, s5, hp5, es, hr5, pr5⟩
      rw [List.getElem?_map, List.getElem?_map] at hi
      cases he : g.source[i]? with
      | none =>
        rw [he] at hi
        cases hi
      | some e =>
        rw [he] at hi
        have hi := Option.some.inj hi
        subst hi
        have hA5 := hA.same s5
        have hlt : i < g.source.length := (List.getElem?_eq_some_iff.mp he).1
        have sl := hO.slen
        have hte : Ut14.textOf g e.1 = some e.2 := text_of hO.srt he
        have hbe : (Ut14.build g t)[i]? = some (Ut14.lineOf g t e) := by
          unfold Ut14.build
          rw [List.getElem?_map, he]
          rfl
        have ek : es.map (·.1) = (g.source.take i).map fun x => nK x.1 := by
          rw [paired_keys pr5]
          unfold Ut14.build
          rw [← List.map_take, List.map_map]
          congr 1
          funext x
          show nK (Ut14.lineOf g t x).1 = nK x.1
          rw [line_key]
        have nv : valV es (nK e.1) = none := by
          cases c : valV es (nK e.1) with
          | none => rfl
          | some v =>
            have m := valV_in c
            rw [ek] at m
            obtain ⟨x, hx, ex⟩ := List.mem_map.mp m
            obtain ⟨j, hj⟩ := List.mem_iff_getElem?.mp hx
            rw [List.getElem?_take] at hj
            by_cases cj : j < i
            · rw [if_pos cj] at hj
              have exn : x.1 = e.1 := by have := Sum.inl.inj ex; omega
              have a1 : (g.source.map (·.1))[j]? = some e.1 := by rw [List.getElem?_map, hj]; exact congrArg some exn
              have a2 : (g.source.map (·.1))[i]? = some e.1 := by rw [List.getElem?_map, he]; rfl
              have := nd_ix hO.srt.nodup a1 a2
              omega
            · rw [if_neg cj] at hj
              cases hj
        have el : es.length = i := by
          rw [← paired_len pr5, List.length_take]
          unfold Ut14.build
          rw [List.length_map]
          omega
        refine ⟨_, rfl, L.a, C, L.dx, _, _, rfl, hA5.hA, T.cl, T.nS, rF_source, _, rfl, L.dS, nV e.2, rfl, (by have z := DGet.k (k := nK e.1) (s5 _ _ hs); rw [hv, hte] at z; exact z), ?_⟩
        refine ⟨_, rfl, L.a, L.dx, _, rfl, hA5.hA, rF_none (by decide +kernel), _, rfl, _, rfl, _, rfl, by show 3 ≤ sizeLine; decide, fun b6 nb6 => ?_⟩
        have s6 := s5.trans (upd_new (o := .tup [V.int e.1, nV t, nV e.2]) nb6)
        refine ⟨L, ro, g, b6, t, e.1, e.2, rfl, hA5.new nb6, upd_same, ?_⟩
        -- one row more
        have fin : ∀ (a b : Nat) (l : Nat × Nat × Bool) (b7 : Addr) (H6 : Hp), Same H' H6 → H6 b7 = none → Ut14.lineOf g t e = (e.1, a, l.2.2) → Ut14.bit l.2.2 = b →
            ∃ o, DPut (upd H6 b7 (.tup [nV a, nV b])) rd (.int (e.1 : Int)) (.ref b7) o ∧ ∃ v3 v4 v5 : Option V, [some (.ref L.a), some (nV t), some (.ref rd), some (.int (e.1 : Int)), some (nV e.2), some (nV (Ut14.says g t e.1 e.2))] = [some (.ref L.a), some (nV t), some (.ref rd), v3, v4, v5] ∧ Same H o ∧ o p = some (.lst ((g.source.map fun e => (e.1 : Int)).map V.int)) ∧
              ∃ es, o rd = some (.dK es) ∧ Paired (LnAt o) ((Ut14.build g t).take (i + 1)) es := by
          intro a b l b7 H6 s56 nb7 hl hbit
          have s67 := s56.trans (upd_new (o := .tup [nV a, nV b]) nb7)
          have hr7 := s67 _ _ hr5
          refine ⟨_, DPut.k (k := nK e.1) hr7 (small1000 (by rw [el]; omega)), some (.int (e.1 : Int)), some (nV e.2), some (nV (Ut14.says g t e.1 e.2)), rfl, fun c u ec => ?_, ?_, _, upd_same, ?_⟩
          · rw [upd_ne (ne_of_none ec hrd)]
            exact s67 _ _ (s5 c u ec)
          · rw [upd_ne nrp.symm]
            exact s67 _ _ hp5
          · rw [putK_new _ nv, take_more hbe]
            refine paired_snoc (Paired.mapP pr5 fun x y z => z.keep fun c us ec => ?_) ⟨b7, by rw [hl], ?_⟩
            · rw [upd_ne (ne_of (s67 _ _ ec) hr7 (fun z => nomatch z))]
              exact s67 _ _ ec
            · rw [upd_ne (fun z => by rw [z] at nb7; have := s56 _ _ hr5; rw [this] at nb7; cases nb7), upd_same, hl, hbit]
        refine ⟨_, rfl, _, _, rfl, rfl, _, rfl, ?_⟩
        have hs56 : Same H' (upd H' b6 (.tup [nV t, V.int e.1, nV e.2])) := upd_new nb6
        cases c : Ut14.workOf g.work t e.1 e.2 with
        | some n =>
          have np := workOf_pos hO.wpos c
          have sy : Ut14.says g t e.1 e.2 = n := by
            unfold Ut14.says
            rw [c]
            rfl
          rw [sy] at fin ⊢
          refine if_true_of (decide_eq_true (by omega)) ?_
          refine ⟨_, rfl, by show 2 ≤ sizeLine; decide, fun b7 nb7 => ⟨_, rfl, _, rfl, rd, ?_⟩⟩
          obtain ⟨o, d1, d2⟩ := fin n 1 (0, 0, true) b7 _ hs56 nb7 (by unfold Ut14.lineOf; rw [c]) rfl
          exact ⟨o, rfl, d1, d2⟩
        | none =>
          have sy : Ut14.says g t e.1 e.2 = 0 := by
            unfold Ut14.says
            rw [c]
            rfl
          rw [sy] at fin ⊢
          refine if_false_of (by decide) ?_
          refine ⟨_, rfl, by show 2 ≤ sizeLine; decide, fun b7 nb7 => ⟨_, rfl, _, rfl, rd, ?_⟩⟩
          obtain ⟨o, d1, d2⟩ := fin e.2 0 (0, 0, false) b7 _ hs56 nb7 (by unfold Ut14.lineOf; rw [c]) rfl
          exact ⟨o, rfl, d1, d2⟩
    · rintro σ H' ⟨v3, v4, v5, rfl, s5, hp5, es, hr5, pr5⟩
      rw [List.length_map, List.length_map, show g.source.length = (Ut14.build g t).length from (List.length_map ..).symm, List.take_length] at pr5
      exact ⟨_, rfl, q H' rd es s5 hrd hr5 pr5⟩
end
end Tof

namespace Tof
open PySem PySem.Spec PyProof.Rows L2
section
variable {C CP : Addr} {L : Lay} {ro ro' : Addr → Rl} {H : Hp} {g : Ut14.House}
/-- one release more -/
theorem At.addRel (h : At C CP L ro H g) {rd : Addr} {n t : Nat} {ls : List (Nat × Nat × Bool)} (hn : RlAt ro H rd ls) {xs : List V} (hx : H L.lR = some (.lst xs)) :
    At C CP L ro (upd H L.lR (.lst (xs ++ [.ref rd]))) { g with released := g.released ++ [(n, t, ls)] } := by
  have k : Kp ro .lr H (upd H L.lR (.lst (xs ++ [.ref rd]))) := Kp.upd hx trivial h.rR
  exact {
    fresh := fun b e => h.fresh b (k.fresh b e)
    hA := k.all _ _ h.hA (by rw [h.rA]; exact nofun)
    rA := h.rA
    hS := let ⟨s, e1, e2⟩ := h.hS; ⟨s, k.all _ _ e1 (by rw [h.rS]; exact nofun), e2⟩
    rS := h.rS
    hW := k.all _ _ h.hW (by rw [h.rW]; exact nofun)
    rW := h.rW
    hP := h.packs k nofun nofun nofun
    rP := h.rP
    hU := k.all _ _ h.hU (by rw [h.rU]; exact nofun)
    rU := h.rU
    hR := by
      obtain ⟨rds, e1, e2, e3⟩ := h.hR
      rw [hx] at e1
      have e1 := HO.lst.inj (Option.some.inj e1)
      subst e1
      refine ⟨rds ++ [rd], by rw [upd_same, List.map_append]; rfl, by simp [e2], fun i q hq => ?_⟩
      rw [List.getElem?_append] at hq
      by_cases c : i < g.released.length
      · rw [if_pos c] at hq
        obtain ⟨pb, q1, q2⟩ := e3 i q hq
        exact ⟨pb, by rw [List.getElem?_append, if_pos (by rw [e2]; exact c)]; exact q1, q2.keep k nofun⟩
      · rw [if_neg c] at hq
        have c0 : i - g.released.length = 0 := by
          cases d : i - g.released.length with
          | zero => rfl
          | succ n => rw [d] at hq; cases hq
        rw [c0] at hq
        have hq := Option.some.inj hq
        subst hq
        have ei : i = g.released.length := by omega
        subst ei
        refine ⟨rd, ?_, hn.keep k nofun⟩
        rw [List.getElem?_append, if_neg (by omega), e2, Nat.sub_self]
        rfl
    rR := h.rR }
end
theorem bits_sum : ∀ l : List (Nat × Nat × Bool), (l.map fun x => (Ut14.bit x.2.2 : Int)).sum = ((l.filter fun x => x.2.2).length : Nat)
  | [] => rfl
  | a :: l => by
    rw [List.map_cons, List.sum_cons, bits_sum l, List.filter_cons]
    cases c : a.2.2 with
    | true =>
      rw [if_pos rfl, List.length_cons]
      show (1 : Int) + _ = _
      omega
    | false =>
      rw [if_neg Bool.false_ne_true]
      show (0 : Int) + _ = _
      omega
section
variable {P : Program} {w : World} {K : PySem.W.Frag} {mg : Str → Option Value} {base : Heap} {C CP : Addr}
/-! ### add_release -/
def spRel (C CP : Addr) : Sp := fun vs H Q _ => ∃ (L : Lay) (ro : Addr → Rl) (g : Ut14.House) (N t : Nat), vs = [.ref L.a, nV t] ∧ At C CP L ro H g ∧ Ok N g ∧ Ans C CP L ro H g (.release t) Q
theorem scRel : FnScope ["self", "tongue", "shown", "translated", "row"] ["self", "tongue"] (defScope sRel) := ⟨rfl, rfl, rfl, by decide +kernel, rfl, by decide +kernel, by decide +kernel⟩
theorem ok_rel {f : Addr} {fd : FuncData} (F : Fun K "add_release" "Records.add_release" sRel f fd) (T : Txt K mg C CP) (MS : MCal P w K mg base C "shown_now" 2 ["self", "tongue"] (spShown C CP)) : FnOk P w K mg base CX0 3 f fd ["self", "tongue"] (spRel C CP) := by
  obtain ⟨f2, fd2, m2, F2, b2⟩ := MS
  refine F.ok scRel (fun vs H Q E h => ?_) (fun cdv A outer s H vs Q E hr h => ⟨_, pss_cons
    (ps_if (pt_cmpR op_gt (pv 1) (pe_gi T.LAST_TONGUE) (nomark _)) (pss_one (ps_ret (pe_lst (pa_cons (pe_gi T.NOT_AS_TOLD) pa_nil)))) pss_nil)
    (pss_cons (ps_if (pt_cmpR op_ge (pe_callB call_len_seq (by rfl) T.len PySem.boot_len (pa_cons (pe_fld (pv 0) rfl) pa_nil)) (pe_gi T.MOST_RELEASES) (nomark _)) (pss_one (ps_ret (pe_lst (pa_cons (pe_gi T.FULL) pa_nil)))) pss_nil)
    (pss_cons (ps_set (i := 2) scRel.nd rfl (Or.inl rfl) (pe_meth (pv 0) T.cl m2 F2 hr b2 .nil pass0 (pa_cons (pv 1) pa_nil)))
    (pss_cons (ps_expr (pe_bm PySem.F.plainAttrs_list PySem.F.slot_list_append PySem.F.type_list_append mt_append (pe_fld (pv 0) rfl) (pa_cons (pv 2) pa_nil)))
    (pss_cons (ps_set (i := 3) scRel.nd rfl (Or.inl rfl) (pe_callB (cr_sum rfl) (by rfl) T.sum (by decide +kernel) (pa_cons (pe_lock (pe_lc (own := [("row", 4)]) (g := gName 4) (tt := tYes) (te := tOp (rIxT K) (tVar 4) (tC (.int 1))) rfl scRel.nd (pi_values (pv 2)) (blkOk_by (own := [("row", 4)]) (N := ["self", "tongue", "shown", "translated", "row"]) (sc := defScope sRel) (by decide +kernel))
      (fun _ _ _ _ _ => pg_name (i := 4) scRel.nd rfl (Or.inl rfl)) (fun _ _ _ _ _ => pts_nil) (fun _ _ _ _ _ => pe_ix ix_tup (pv 4) pe_int (fun _ _ => rfl)))) pa_nil)))
    (pss_one (ps_ret (pe_lst (pa_cons (pe_op op_sub (pe_callB call_len_seq (by rfl) T.len PySem.boot_len (pa_cons (pe_fld (pv 0) rfl) pa_nil)) pe_int) (pa_cons (pe_callB call_lenD (by rfl) T.len PySem.boot_len (pa_cons (pv 2) pa_nil)) (pa_cons (pv 3) pa_nil)))))))))), ?_⟩)
  · obtain ⟨L, ro, g, N, t, rfl, _⟩ := h
    rfl
  · obtain ⟨L, ro, g, N, t, rfl, hA, hO, q⟩ := h
    obtain ⟨rds, hp, hpl, _⟩ := hA.hR
    have one : ∀ (z : Int), Ut14.step g (.release t) = (g, [z]) → 1 ≤ sizeLine ∧ ∀ p, H p = none → Q (.ref p) (upd H p (.lst [.int z])) := fun z e => ⟨by decide, fun p hp => q.no e hA (Same.refl H) p hp⟩
    refine ⟨_, rfl, _, _, rfl, rfl, _, rfl, ?_⟩
    by_cases c1 : 3 < t
    · exact if_true_of (decide_eq_true (by omega)) (one _ (if_pos c1))
    refine if_false_of (decide_eq_false (by omega)) ?_
    have n1 : ¬ Ut14.TONGUES ≤ t := c1
    have gl : (rds.map V.ref).length = g.released.length := by rw [List.length_map, hpl]
    refine ⟨_, rfl, L.a, C, L.dx, _, _, rfl, hA.hA, T.cl, T.nR, rF_releases, L.lR, _, rfl, .inl (SqL.of hp), _, _, rfl, rfl, _, rfl, ?_⟩
    by_cases c2 : 12 ≤ g.released.length
    · exact if_true_of (decide_eq_true (by rw [gl]; omega)) (one _ ((if_neg n1).trans (if_pos c2)))
    refine if_false_of (decide_eq_false (by rw [gl]; omega)) ?_
    have st : Ut14.step g (.release t) = ({ g with released := g.released ++ [(g.released.length, t, Ut14.build g t)] }, Ut14.ints [g.released.length, (Ut14.build g t).length, ((Ut14.build g t).filter fun x => x.2.2).length]) := (if_neg n1).trans (if_neg c2)
    refine ⟨_, rfl, L.a, L.dx, _, rfl, hA.hA, rF_none (by decide +kernel), _, rfl, L, ro, g, N, t, rfl, hA, hO, fun H1 rd es s1 nrd hrd pr => ?_⟩
    have hA1 := hA.same s1
    have hp1 := s1 _ _ hp
    refine ⟨_, rfl, L.a, C, L.dx, _, _, rfl, hA1.hA, T.cl, T.nR, rF_releases, .inl ⟨rfl, _, SqL.of hp1⟩, _, rfl, L.lR, _, .ref rd, rfl, rfl, hp1, small1000 (by rw [gl]; omega), ?_⟩
    -- the roles behind
    have ord : ro rd = .oth := hA.fresh rd nrd
    let ro' : Addr → Rl := fun c => if c = rd then .own else ro c
    have r1 : ∀ c, ro c ≠ .oth → ro' c = ro c := fun c hc => if_neg fun z => hc (by rw [z]; exact ord)
    have r3 : ro' rd = .own := if_pos rfl
    have H2 : At C CP L ro' H1 g := hA1.rerole r1 fun c hc => by
      show (if c = rd then Rl.own else ro c) = _
      rw [if_neg (fun z => by rw [z, hrd] at hc; cases hc)]
      exact hA1.fresh c hc
    have H3 := H2.addRel (n := g.released.length) (t := t) ⟨es, hrd, r3, pr⟩ hp1
    have nlr : rd ≠ L.lR := fun z => by rw [z, hp] at nrd; cases nrd
    have k3 : ∀ c us, H1 c = some (.tup us) → upd H1 L.lR (.lst (rds.map V.ref ++ [.ref rd])) c = some (.tup us) := fun c us e => by
      rw [upd_ne (ne_of e hp1 (fun z => nomatch z))]
      exact e
    have hrd3 : upd H1 L.lR (.lst (rds.map V.ref ++ [.ref rd])) rd = some (.dK es) := by
      rw [upd_ne nlr]
      exact hrd
    have free3 : ∀ c, upd H1 L.lR (.lst (rds.map V.ref ++ [.ref rd])) c = none → H c = none := fun c hc => s1.free (upd_free hc)
    have fr3 : Fr ro H ro' (upd H1 L.lR (.lst (rds.map V.ref ++ [.ref rd]))) := fun c o e r => by
      refine ⟨?_, (if_neg (fun z => by rw [z, nrd] at e; cases e)).trans r⟩
      rw [upd_ne (fun z => by rw [z, hA.rR] at r; cases r)]
      exact s1 c o e
    have hlr3 : upd H1 L.lR (.lst (rds.map V.ref ++ [.ref rd])) L.lR = some (.lst (rds.map V.ref ++ [.ref rd])) := upd_same
    generalize upd H1 L.lR (.lst (rds.map V.ref ++ [.ref rd])) = H4 at H3 hrd3 k3 free3 fr3 hlr3
    have el : es.length = (Ut14.build g t).length := (paired_len pr).symm
    have bl : (Ut14.build g t).length ≤ 10 := by
      unfold Ut14.build
      rw [List.length_map]
      exact hO.slen
    -- the sum, under a lock
    refine ⟨rd, _, hrd3, trivial, fun od => ⟨_, rfl, rd, od, es, rfl, upd_same, fun D hD => ?_⟩⟩
    have hD4 : H4 D = none := upd_free hD
    have nDr : rd ≠ D := fun z => by rw [z] at hrd3; rw [hrd3] at hD4; cases hD4
    refine lc_it (walk_values (d := rd) (o := od) (kvs := es)) (vs := [4]) (fun i H' => H' = upd (upd H4 rd (.frz od (.dK es))) D (.lst (((Ut14.build g t).take i).map fun x => nV (Ut14.bit x.2.2)))) rfl (fun i H' _ e => by rw [e, upd_ne nDr]; exact upd_same) ?_ ?_
    · rintro i x H5 H6 hi rfl ⟨rfl, kk, hx⟩
      obtain ⟨ln, hl, tt, e1, e2⟩ := paired_at pr hx
      have e1 := (Prod.mk.inj e1).2
      subst e1
      have t5 : upd (upd H4 rd (.frz od (.dK es))) D (.lst (((Ut14.build g t).take i).map fun x => nV (Ut14.bit x.2.2))) tt = some (.tup [nV ln.2.1, nV (Ut14.bit ln.2.2)]) := by
        have e4 := k3 _ _ e2
        rw [upd_ne (fun z => by rw [z, hD4] at e4; cases e4), upd_ne (ne_of e4 hrd3 (fun z => nomatch z))]
        exact e4
      show wipe _ _ = wipe _ _ ∧ _
      refine ⟨rfl, ?_⟩
      unfold tYes
      dsimp only
      rw [if_pos rfl]
      refine ⟨_, rfl, tt, _, _, nV (Ut14.bit ln.2.2), rfl, rfl, SqT.of t5, rfl, _, upd_same, small1000 ?_, ?_⟩
      · rw [List.length_map, List.length_take]
        omega
      · rw [upd_upd, take_more hl, List.map_append]
        rfl
    · rintro H5 e5
      rw [el, List.take_length] at e5
      subst e5
      refine ⟨by rw [upd_ne nDr]; exact upd_same, ?_⟩
      have eH : upd (upd (upd H4 rd (.frz od (.dK es))) D (.lst ((Ut14.build g t).map fun x => nV (Ut14.bit x.2.2)))) rd (.dK es) = upd H4 D (.lst ((Ut14.build g t).map fun x => nV (Ut14.bit x.2.2))) := by
        funext c
        unfold upd
        by_cases d1 : c = rd
        · rw [if_pos d1, if_neg (by rw [d1]; exact nDr), d1, hrd3]
        · rw [if_neg d1]
          by_cases d2 : c = D
          · rw [if_pos d2, if_pos d2]
          · rw [if_neg d2, if_neg d2, if_neg d1]
      rw [eH]
      refine ⟨D, (Ut14.build g t).map (fun x => (Ut14.bit x.2.2 : Int)), rfl, SqL.of (by rw [upd_same, List.map_map]; rfl), ?_⟩
      have s45 := upd_new (o := .lst ((Ut14.build g t).map fun x => nV (Ut14.bit x.2.2))) hD4
      have H5 := H3.same s45
      rw [bits_sum]
      refine ⟨_, rfl, L.a, C, L.dx, _, _, rfl, H5.hA, T.cl, T.nR, rF_releases, L.lR, _, rfl, .inl (SqL.of (s45 _ _ hlr3)), _, _, rfl, rfl, _, rfl, rd, es, rfl, s45 _ _ hrd3, _, rfl, by show 3 ≤ sizeLine; decide, fun p hp0 => ?_⟩
      have z := q.done st H5 (fr3.trans (Fr.same s45)) (fun c hc => free3 c (s45.free hc)) p hp0
      have ee : [V.int (((rds.map V.ref ++ [V.ref rd]).length : Nat) - 1 : Int), V.int (es.length : Nat), V.int (((Ut14.build g t).filter fun x => x.2.2).length : Nat)] = (Ut14.ints [g.released.length, (Ut14.build g t).length, ((Ut14.build g t).filter fun x => x.2.2).length]).map V.int := by
        rw [List.length_append, gl, el]
        show [V.int (((g.released.length + 1 : Nat) : Int) - 1), _, _] = [V.int (g.released.length : Int), _, _]
        congr 2
        omega
      rw [← ee] at z
      exact z
end
end Tof

namespace Tof
open PySem PySem.Spec PyProof.Rows L2
abbrev sPairs : Stmt := top 42
section
variable {P : Program} {w : World} {K : PySem.W.Frag} {mg : Str → Option Value} {base : Heap} {C CP : Addr}
/-! ### Records.__init__ -/
def spInitR (C CP : Addr) : Sp := fun vs H Q _ => ∃ (p dx : Addr), vs = [.ref p] ∧ H p = some (.ins C dx []) ∧
  ∀ (L : Lay) (ro : Addr → Rl) (H' : Hp), L.a = p → At C CP L ro H' Ut14.init → (∀ b o, H b = some o → b ≠ p → H' b = some o ∧ ro b = .oth) → Q .non H'
theorem scInitR : FnScope ["self"] ["self"] (defScope sInitR) := ⟨rfl, rfl, rfl, by decide +kernel, rfl, by decide +kernel, by decide +kernel⟩
theorem rF_new (L : Lay) : putF "releases" (.ref L.lR) (putF "unsettled" (.ref L.dU) (putF "packages" (.ref L.lP) (putF "work" (.ref L.dW) (putF "source" (.ref L.dS) [])))) = rF L := by
  have h2 : putF "work" (.ref L.dW) [(("source" : Str), V.ref L.dS)] = [(("source" : Str), V.ref L.dS), (("work" : Str), V.ref L.dW)] := (put_past (by decide +kernel)).trans rfl
  have h3 : putF "packages" (.ref L.lP) [(("source" : Str), V.ref L.dS), (("work" : Str), V.ref L.dW)] = [(("source" : Str), V.ref L.dS), (("work" : Str), V.ref L.dW), (("packages" : Str), V.ref L.lP)] :=
    (put_past (by decide +kernel)).trans (congrArg _ ((put_past (by decide +kernel)).trans rfl))
  have h4 : putF "unsettled" (.ref L.dU) [(("source" : Str), V.ref L.dS), (("work" : Str), V.ref L.dW), (("packages" : Str), V.ref L.lP)] = [(("source" : Str), V.ref L.dS), (("work" : Str), V.ref L.dW), (("packages" : Str), V.ref L.lP), (("unsettled" : Str), V.ref L.dU)] :=
    (put_past (by decide +kernel)).trans (congrArg _ ((put_past (by decide +kernel)).trans (congrArg _ ((put_past (by decide +kernel)).trans rfl))))
  have h5 : putF "releases" (.ref L.lR) [(("source" : Str), V.ref L.dS), (("work" : Str), V.ref L.dW), (("packages" : Str), V.ref L.lP), (("unsettled" : Str), V.ref L.dU)] = rF L :=
    (put_past (by decide +kernel)).trans (congrArg _ ((put_past (by decide +kernel)).trans (congrArg _ ((put_past (by decide +kernel)).trans (congrArg _ ((put_past (by decide +kernel)).trans rfl))))))
  rw [show putF "source" (.ref L.dS) [] = [(("source" : Str), V.ref L.dS)] from rfl, h2, h3, h4, h5]
theorem ok_initR {f : Addr} {fd : FuncData} (F : Fun K "__init__" "Records.__init__" sInitR f fd) (T : Txt K mg C CP) : FnOk P w K mg base CX0 1 f fd ["self"] (spInitR C CP) := by
  refine F.ok scInitR (fun vs H Q E h => ?_) (fun cdv A outer s H vs Q E hr h => ⟨_, pss_cons (ps_fld (pv 0) pe_dnewK rfl) (pss_cons (ps_fld (pv 0) pe_dnewT rfl) (pss_cons (ps_fld (pv 0) (pe_lst pa_nil) rfl) (pss_cons (ps_fld (pv 0) pe_dnewT rfl) (pss_one (ps_fld (pv 0) (pe_lst pa_nil) rfl))))), ?_⟩)
  · obtain ⟨p, dx, rfl, _⟩ := h
    rfl
  · obtain ⟨p, dx, rfl, hp, q⟩ := h
    intro dS hdS
    have e1 : p ≠ dS := ne_of_none hp hdS
    refine ⟨_, rfl, p, C, dx, [], rfl, by rw [upd_ne e1]; exact hp, T.cl, T.nS, (by show 0 < 1000; decide), ?_⟩
    intro dW hdW
    have e2 : p ≠ dW := ne_of_none upd_same hdW
    have e3 : dS ≠ dW := fun z => by rw [← z, upd_ne e1.symm, upd_same] at hdW; cases hdW
    have fW : H dW = none := upd_free (upd_free hdW)
    refine ⟨_, rfl, p, C, dx, _, rfl, by rw [upd_ne e2]; exact upd_same, T.cl, T.nW, (by show 1 < 1000; decide), ?_⟩
    refine ⟨by decide, fun lP hlP => ?_⟩
    have e4 : p ≠ lP := ne_of_none upd_same hlP
    have e5 : dW ≠ lP := fun z => by rw [← z, upd_ne e2.symm, upd_same] at hlP; cases hlP
    have e6 : dS ≠ lP := fun z => by rw [← z, upd_ne e1.symm, upd_ne e3, upd_ne e1.symm, upd_same] at hlP; cases hlP
    have fP : H lP = none := upd_free (upd_free (upd_free (upd_free hlP)))
    refine ⟨_, rfl, p, C, dx, _, rfl, by rw [upd_ne e4]; exact upd_same, T.cl, T.nP, (by show 2 < 1000; decide), ?_⟩
    intro dU hdU
    have e7 : p ≠ dU := ne_of_none upd_same hdU
    have e8 : lP ≠ dU := fun z => by rw [← z, upd_ne e4.symm, upd_same] at hdU; cases hdU
    have e9 : dW ≠ dU := fun z => by rw [← z, upd_ne e2.symm, upd_ne e5, upd_ne e2.symm, upd_same] at hdU; cases hdU
    have e10 : dS ≠ dU := fun z => by rw [← z, upd_ne e1.symm, upd_ne e6, upd_ne e1.symm, upd_ne e3, upd_ne e1.symm, upd_same] at hdU; cases hdU
    have fU : H dU = none := upd_free (upd_free (upd_free (upd_free (upd_free (upd_free hdU)))))
    refine ⟨_, rfl, p, C, dx, _, rfl, by rw [upd_ne e7]; exact upd_same, T.cl, T.nU, (by show 3 < 1000; decide), ?_⟩
    refine ⟨by decide, fun lR hlR => ?_⟩
    have e11 : p ≠ lR := ne_of_none upd_same hlR
    have e12 : dU ≠ lR := fun z => by rw [← z, upd_ne e7.symm, upd_same] at hlR; cases hlR
    have e13 : lP ≠ lR := fun z => by rw [← z, upd_ne e4.symm, upd_ne e8, upd_ne e4.symm, upd_same] at hlR; cases hlR
    have e14 : dW ≠ lR := fun z => by rw [← z, upd_ne e2.symm, upd_ne e9, upd_ne e2.symm, upd_ne e5, upd_ne e2.symm, upd_same] at hlR; cases hlR
    have e15 : dS ≠ lR := fun z => by rw [← z, upd_ne e1.symm, upd_ne e10, upd_ne e1.symm, upd_ne e6, upd_ne e1.symm, upd_ne e3, upd_ne e1.symm, upd_same] at hlR; cases hlR
    have fR : H lR = none := upd_free (upd_free (upd_free (upd_free (upd_free (upd_free (upd_free (upd_free hlR)))))))
    refine ⟨_, rfl, p, C, dx, _, rfl, by rw [upd_ne e11]; exact upd_same, T.cl, T.nR, (by show 4 < 1000; decide), ?_⟩
    have nf := rF_new ⟨p, dx, dS, dW, lP, dU, lR⟩
    let ro : Addr → Rl := fun c => if c = p then .own else if c = dS then .src else if c = dW then .wrk else if c = lP then .lp else if c = dU then .uns else if c = lR then .lr else .oth
    refine q ⟨p, dx, dS, dW, lP, dU, lR⟩ ro _ rfl ?_ fun b o hb nb => ⟨?_, ?_⟩
    · refine At.mk (fun b hb => ?_) ?_ (if_pos rfl) ⟨[], ?_, List.Perm.refl _⟩ ((if_neg e1.symm).trans (if_pos rfl)) ?_ ((if_neg e2.symm).trans ((if_neg e3.symm).trans (if_pos rfl))) ⟨[], ?_, rfl, by intro i p h; simp [Ut14.init] at h⟩
        ((if_neg e4.symm).trans ((if_neg e6.symm).trans ((if_neg e5.symm).trans (if_pos rfl)))) ?_ ((if_neg e7.symm).trans ((if_neg e10.symm).trans ((if_neg e9.symm).trans ((if_neg e8.symm).trans (if_pos rfl))))) ⟨[], ?_, rfl, by intro i p h; simp [Ut14.init] at h⟩
        ((if_neg e11.symm).trans ((if_neg e15.symm).trans ((if_neg e14.symm).trans ((if_neg e13.symm).trans ((if_neg e12.symm).trans (if_pos rfl))))))
      · show (if b = p then Rl.own else if b = dS then .src else if b = dW then .wrk else if b = lP then .lp else if b = dU then .uns else if b = lR then .lr else .oth) = .oth
        unfold upd at hb
        by_cases c0 : b = p
        · rw [if_pos c0] at hb; cases hb
        rw [if_neg c0] at hb ⊢
        by_cases c1 : b = lR
        · rw [if_pos c1] at hb; cases hb
        rw [if_neg c1, if_neg c0] at hb
        by_cases c2 : b = dU
        · rw [if_pos c2] at hb; cases hb
        rw [if_neg c2, if_neg c0] at hb
        by_cases c3 : b = lP
        · rw [if_pos c3] at hb; cases hb
        rw [if_neg c3, if_neg c0] at hb
        by_cases c4 : b = dW
        · rw [if_pos c4] at hb; cases hb
        rw [if_neg c4, if_neg c0] at hb
        by_cases c5 : b = dS
        · rw [if_pos c5] at hb; cases hb
        rw [if_neg c5, if_neg c4, if_neg c3, if_neg c2, if_neg c1]
      · rw [upd_same, nf]
      · rw [upd_ne e1.symm, upd_ne e15, upd_ne e1.symm, upd_ne e10, upd_ne e1.symm, upd_ne e6, upd_ne e1.symm, upd_ne e3, upd_ne e1.symm, upd_same]
        rfl
      · rw [upd_ne e2.symm, upd_ne e14, upd_ne e2.symm, upd_ne e9, upd_ne e2.symm, upd_ne e5, upd_ne e2.symm, upd_same]
        rfl
      · rw [upd_ne e4.symm, upd_ne e13, upd_ne e4.symm, upd_ne e8, upd_ne e4.symm, upd_same]
        rfl
      · rw [upd_ne e7.symm, upd_ne e12, upd_ne e7.symm, upd_same]
        rfl
      · rw [upd_ne e11.symm, upd_same]
        rfl
    · rw [upd_ne nb, upd_ne (ne_of_none hb fR), upd_ne nb, upd_ne (ne_of_none hb fU), upd_ne nb, upd_ne (ne_of_none hb fP), upd_ne nb, upd_ne (ne_of_none hb fW), upd_ne nb, upd_ne (ne_of_none hb hdS)]
      exact hb
    · exact (if_neg nb).trans ((if_neg (ne_of_none hb hdS)).trans ((if_neg (ne_of_none hb fW)).trans ((if_neg (ne_of_none hb fP)).trans ((if_neg (ne_of_none hb fU)).trans (if_neg (ne_of_none hb fR))))))
/-! ### pairs_of -/
def flat (l : List (Nat × Nat)) : List V := l.flatMap fun x => [nV x.1, nV x.2]
theorem flat_len (l : List (Nat × Nat)) : (flat l).length = 2 * l.length := by
  induction l with
  | nil => rfl
  | cons a l ih =>
    show (nV a.1 :: nV a.2 :: flat l).length = _
    rw [List.length_cons, List.length_cons, ih, List.length_cons]
    omega
theorem flat_at : ∀ {l : List (Nat × Nat)} {i : Nat} {x : Nat × Nat}, l[i]? = some x → (flat l)[2 * i]? = some (nV x.1) ∧ (flat l)[2 * i + 1]? = some (nV x.2)
  | [], i, x, h => by simp at h
  | a :: l, 0, x, h => by
    have e := Option.some.inj h
    subst e
    exact ⟨rfl, rfl⟩
  | a :: l, i + 1, x, h => flat_at (l := l) (i := i) h
def spPairs (K : PySem.W.Frag) : Sp := fun vs H Q _ => ∃ (b : Addr) (l : List (Nat × Nat)), vs = [.ref b] ∧ SqL K H b (flat l) ∧ l.length ≤ 500 ∧ ∀ H' D, Same H H' → H D = none → PrsAt H' D l → Q (.ref D) H'
theorem scPairs : FnScope ["row", "at"] ["row"] (defScope sPairs) := ⟨rfl, rfl, rfl, by decide +kernel, rfl, by decide +kernel, by decide +kernel⟩
theorem rg2 (n : Nat) (h : n ≤ 500) : RgC 0 ((2 * n : Nat) : Int) 2 n := by
  refine ⟨by decide, by decide, ?_, ?_⟩
  · have fl : ∀ z : Int, 0 ≤ z → z < 2 ^ 62 → Builtin.Range.rangeFitsLong z = true := fun z h1 h2 => by
      unfold Builtin.Range.rangeFitsLong
      rw [Bool.and_eq_true, decide_eq_true_eq, decide_eq_true_eq]
      omega
    have sz : Builtin.Range.rangeSize 0 ((2 * n : Nat) : Int) 2 = n := by
      unfold Builtin.Range.rangeSize
      rw [if_pos (by decide)]
      split <;> omega
    unfold Builtin.Range.small
    rw [sz, if_pos (by decide), fl 0 (by omega) (by decide), fl _ (by omega) (by omega), fl 2 (by decide) (by decide), fl n (by omega) (by omega), fl _ (by omega) (by omega), Bool.or_true]
    rfl
  · unfold Builtin.Range.rangeSize
    rw [if_pos (by decide)]
    split <;> omega
theorem ok_pairs {f : Addr} {fd : FuncData} (F : Fun K "pairs_of" "pairs_of" sPairs f fd) (T : Txt K mg C CP) : FnOk P w K mg base CX0 1 f fd ["row"] (spPairs K) := by
  refine F.ok scPairs (fun vs H Q E h => ?_) (fun cdv A outer s H vs Q E hr h => ⟨_, pss_one (ps_ret (pe_lc (own := [("at", 1)]) (g := gName 1) (tt := tYes) (te := tTup (tCons (tOp (rIxL K) (tVar 0) (tVar 1)) (tCons (tOp (rIxL K) (tVar 0) (tOp (rI0 fun i j => .int (i + j)) (tVar 1) (tC (.int 1)))) tNil))) rfl scPairs.nd
      (pi_range3 rfl T.range (pa_cons pe_int (pa_cons (pe_callB call_len_seq (by rfl) T.len PySem.boot_len (pa_cons (pv 0) pa_nil)) (pa_cons pe_int pa_nil)))) (blkOk_by (own := [("at", 1)]) (N := ["row", "at"]) (sc := defScope sPairs) (by decide +kernel))
      (fun _ _ _ _ _ => pg_name (i := 1) scPairs.nd rfl (Or.inl rfl)) (fun _ _ _ _ _ => pts_nil) (fun _ _ _ _ _ => pe_tup (pa_cons (pe_ix ix_list (pv 0) (pv 1) (fun _ _ => rfl)) (pa_cons (pe_ix ix_list (pv 0) (pe_op op_add (pv 1) pe_int) (fun _ _ => rfl)) pa_nil))))), ?_⟩)
  · obtain ⟨b, l, rfl, _⟩ := h
    rfl
  · obtain ⟨b, l, rfl, hb, few, q⟩ := h
    refine ⟨_, rfl, b, _, rfl, .inl hb, 0, _, 2, l.length, rfl, by rw [flat_len]; exact rg2 l.length few, fun D hD => ?_⟩
    refine lc_it (walk_rangeC (lo := 0) (c := 2) (n := l.length)) (vs := [1]) (fun i H' => ∃ ts : List Addr, H' D = some (.lst (ts.map V.ref)) ∧ Paired (PrT H') (l.take i) ts ∧ Same H H')
      ⟨[], upd_same, by rw [List.take_zero]; exact .nil, upd_new hD⟩ (fun i H' _ _ => trivial) ?_ ?_
    · rintro i x H1 H2 hi ⟨ts, h1, h2, s1⟩ ⟨rfl, rfl⟩
      have hx : l[i]? = some l[i] := List.getElem?_eq_getElem hi
      generalize l[i] = kn at hx
      obtain ⟨f1, f2⟩ := flat_at hx
      refine ⟨rfl, ?_⟩
      unfold tYes
      dsimp only
      rw [if_pos rfl]
      have ei : ∀ d : Int, (0 : Int) + (i : Nat) * 2 + d = ((2 * i : Nat) : Int) + d := fun d => by omega
      have e0 : (0 : Int) + (i : Nat) * 2 = ((2 * i : Nat) : Int) := by omega
      have e1 : (0 : Int) + (i : Nat) * 2 + 1 = ((2 * i + 1 : Nat) : Int) := by omega
      refine ⟨_, rfl, _, rfl, b, _, _, nV kn.1, rfl, rfl, s1.seq hb, at_of e0 f1, _, rfl, _, rfl, _, _, rfl, rfl, b, _, _, nV kn.2, rfl, rfl, s1.seq hb, at_of e1 f2, by show 2 ≤ sizeLine; decide, fun t ht => ?_⟩
      have s12 := upd_new (o := .tup [nV kn.1, nV kn.2]) ht
      have tl : ts.length = i := by
        rw [← paired_len h2, List.length_take]
        omega
      have ntd : t ≠ D := fun z => by rw [z, h1] at ht; cases ht
      refine ⟨_, s12 _ _ h1, small1000 (by rw [List.length_map]; omega), ts ++ [t], by rw [upd_same, List.map_append]; rfl, ?_, fun c o e => ?_⟩
      · rw [take_more hx]
        refine paired_snoc (Paired.mapP h2 fun x y z => ?_) ?_
        · show upd _ D _ y = _
          rw [upd_ne (ne_of z h1 (fun z => nomatch z))]
          exact s12 _ _ z
        · show upd _ D _ t = _
          rw [upd_ne ntd]
          exact upd_same
      · rw [upd_ne (ne_of_none e hD)]
        exact s12 _ _ (s1 c o e)
    · rintro H1 ⟨ts, h1, h2, s1⟩
      rw [List.take_length] at h2
      exact q H1 D s1 hD ⟨ts, h1, h2⟩
end
end Tof

namespace Tof
open PySem PySem.Spec PyProof.Rows L2
/-! ### what always holds holds behind every step -/
theorem ins_mem (e : Ut14.Entry) : ∀ (s : List Ut14.Entry) (x : Ut14.Entry), x ∈ Ut14.insertEntry e s → x = e ∨ x ∈ s
  | [], x, h => .inl (List.mem_singleton.mp h)
  | a :: s, x, h => by
    have h : x ∈ (if e.1 < a.1 then e :: a :: s else if e.1 = a.1 then e :: s else a :: Ut14.insertEntry e s) := h
    split at h
    · exact (List.mem_cons.mp h)
    · split at h
      · rcases List.mem_cons.mp h with z | z
        · exact .inl z
        · exact .inr (List.mem_cons_of_mem _ z)
      · rcases List.mem_cons.mp h with z | z
        · exact .inr (by rw [z]; exact List.mem_cons_self ..)
        · rcases ins_mem e s x z with z | z
          · exact .inl z
          · exact .inr (List.mem_cons_of_mem _ z)
theorem ins_srt (e : Ut14.Entry) : ∀ s : List Ut14.Entry, Srt s → Srt (Ut14.insertEntry e s)
  | [], _ => List.pairwise_singleton ..
  | a :: s, h => by
    obtain ⟨h1, h2⟩ := List.pairwise_cons.mp h
    show Srt (if e.1 < a.1 then e :: a :: s else if e.1 = a.1 then e :: s else a :: Ut14.insertEntry e s)
    split
    · rename_i c
      refine List.pairwise_cons.mpr ⟨fun x hx => ?_, h⟩
      rcases List.mem_cons.mp hx with z | z
      · rw [z]
        exact c
      · exact Nat.lt_trans c (h1 x z)
    · split
      · rename_i c d
        exact List.pairwise_cons.mpr ⟨fun x hx => by rw [d]; exact h1 x hx, h2⟩
      · rename_i c d
        refine List.pairwise_cons.mpr ⟨fun x hx => ?_, ins_srt e s h2⟩
        rcases ins_mem e s x hx with z | z
        · rw [z]
          omega
        · exact h1 x z
theorem textOf_none {g : Ut14.House} {k : Nat} : (Ut14.textOf g k).isNone = true ↔ (g.source.any fun e => e.1 == k) = false := by
  unfold Ut14.textOf
  rw [Option.isNone_map, Option.isNone_iff_eq_none, List.find?_eq_none, ← Bool.not_eq_true, List.any_eq_true]
  constructor
  · rintro h ⟨x, hx, e⟩
    exact h x hx e
  · exact fun h x hx e => h ⟨x, hx, e⟩
theorem ins_len {g : Ut14.House} (h : Srt g.source) (k x : Nat) (n : ¬ ((Ut14.textOf g k).isNone = true ∧ 10 ≤ g.source.length)) (l : g.source.length ≤ 10) : (Ut14.insertEntry (k, x) g.source).length ≤ 10 := by
  cases c : g.source.any fun e => e.1 == k with
  | true =>
    rw [ins_old k x g.source h c, List.length_map]
    exact l
  | false =>
    rw [(ins_new k x g.source c).length_eq, List.length_cons]
    have : ¬ 10 ≤ g.source.length := fun z => n ⟨textOf_none.mpr c, z⟩
    omega
theorem snoc_at {α : Type} {l : List α} {a x : α} {i : Nat} (h : (l ++ [a])[i]? = some x) : l[i]? = some x ∨ (i = l.length ∧ x = a) := by
  rw [List.getElem?_append] at h
  by_cases c : i < l.length
  · rw [if_pos c] at h
    exact .inl h
  · rw [if_neg c] at h
    cases d : i - l.length with
    | zero =>
      rw [d] at h
      exact .inr ⟨by omega, (Option.some.inj h).symm⟩
    | succ n =>
      rw [d] at h
      cases h
theorem ok_step {N : Nat} {g : Ut14.House} (h : Ok N g) (c : Ut14.Call) : Ok (N + 6) (Ut14.step g c).1 := by
  have h6 : Ok (N + 6) g := h.mono (by omega)
  cases c with
  | text k x =>
    show Ok _ (if 99 < k ∨ x = 0 ∨ 999 < x then (g, [-1]) else if (Ut14.textOf g k).isNone = true ∧ 10 ≤ g.source.length then (g, [-5]) else _).1
    split
    · exact h6
    · split
      · exact h6
      · rename_i n
        exact { h6 with srt := ins_srt _ _ h.srt, slen := ins_len h.srt k x n h.slen }
  | gone k =>
    show Ok _ (if (Ut14.textOf g k).isNone = true then (g, [-2]) else _).1
    split
    · exact h6
    · exact { h6 with srt := h.srt.sublist List.filter_sublist, slen := Nat.le_trans (List.length_filter_le ..) h.slen }
  | translate t k w =>
    show Ok _ (if Ut14.TONGUES ≤ t ∨ 999 < w then (g, [-1]) else (match Ut14.textOf g k with | none => (g, [-2]) | some x => _)).1
    split
    · exact h6
    · cases e : Ut14.textOf g k with
      | none => exact h6
      | some x =>
        show Ok _ (if 60 < (Ut14.put g.work ⟨t, k, x, w⟩).length then (g, [-5]) else _).1
        split
        · exact h6
        · rename_i n
          exact { h6 with wlen := by show (Ut14.put g.work ⟨t, k, x, w⟩).length ≤ 60; omega, wpos := put_pos h.wpos _, wnd := put_apart h.wnd _ }
  | send t l =>
    show Ok _ (if Ut14.TONGUES ≤ t ∨ l = [] ∨ 6 < l.length ∨ l.eraseDups.length ≠ l.length then (g, [-1]) else (match l.mapM fun k => (Ut14.textOf g k).map fun x => (⟨k, x, Ut14.says g t k x⟩ : Ut14.Item) with | none => (g, [-2]) | some m => _)).1
    split
    · exact h6
    · rename_i n
      rw [not_or, not_or, not_or] at n
      obtain ⟨n1, n2, n3, n4⟩ := n
      have nd : l.Nodup := Decidable.of_not_not ((not_congr (twice_iff l)).mp n4)
      by_cases al : ∀ k ∈ l, (Ut14.textOf g k).isSome = true
      · rw [sent_some al]
        show Ok _ (if 10 ≤ g.given then (g, [-5]) else _).1
        split
        · exact h6
        · rename_i n5
          have gv := h.given
          have km : (l.map (itemOf g t)).map (·.key) = l := by
            rw [List.map_map]
            exact List.map_id'' (fun _ => rfl) l
          refine { h6 with given := ?_, plen := ?_, num := ?_, pnd := ?_, pil := ?_ }
          · show g.given + 1 = (g.packages ++ [_]).length
            rw [List.length_append, List.length_singleton, gv]
          · show (g.packages ++ [_]).length ≤ 10
            rw [List.length_append, List.length_singleton]
            omega
          · intro i p hp
            rcases snoc_at hp with z | ⟨z1, z2⟩
            · exact h.num i p z
            · rw [z2, z1]
              exact gv
          · intro p hp
            rcases List.mem_append.mp hp with z | z
            · exact h.pnd p z
            · rw [List.mem_singleton.mp z]
              show ((l.map (itemOf g t)).map (·.key)).Nodup
              rw [km]
              exact nd
          · intro p hp
            rcases List.mem_append.mp hp with z | z
            · exact h.pil p z
            · rw [List.mem_singleton.mp z]
              show (l.map (itemOf g t)).length ≤ 6
              rw [List.length_map]
              omega
      · have : ∃ k ∈ l, Ut14.textOf g k = none := by
          refine Classical.byContradiction fun z => al fun k hk => ?_
          cases e : Ut14.textOf g k with
          | none => exact absurd ⟨k, hk, e⟩ z
          | some _ => rfl
        rw [sent_none this]
        exact h6
  | back num l =>
    show Ok _ (if l = [] ∨ 6 < l.length ∨ (l.all fun x => decide (x.2 ≤ 999)) = false ∨ (l.map fun x => x.1).eraseDups.length ≠ l.length then (g, [-1]) else (match Ut14.packageOf g num with | none => (g, [-2]) | some q => _)).1
    split
    · exact h6
    · rename_i n
      rw [not_or, not_or, not_or] at n
      obtain ⟨n1, n2, n3, n4⟩ := n
      have nd : (l.map (·.1)).Nodup := Decidable.of_not_not fun z => n4 (by have := (twice_iff (l.map (·.1))).mpr z; rw [List.length_map] at this; exact this)
      rw [pkOf h.num]
      cases e : g.packages[num]? with
      | none => exact h6
      | some p =>
        show Ok _ (if (l.all fun x => p.items.any fun y => y.key == x.1) = false then (g, [-3]) else if 60 < (Ut14.backFrom num g l).1.work.length then (g, [-5]) else _).1
        split
        · exact h6
        · rename_i n5
          split
          · exact h6
          · rename_i n6
            have al := all_in.mp (by cases d : (l.all fun x => p.items.any fun y => y.key == x.1) with | true => rfl | false => exact absurd d n5)
            obtain ⟨_, p', bi⟩ := back_upto h e l nd al l.length (Nat.le_refl _)
            rw [List.take_length] at bi
            exact { bi.ok with wlen := by show (Ut14.backFrom num g l).1.work.length ≤ 60; omega, olen := Nat.le_trans bi.ok.olen (by omega) }
  | choose t k x th =>
    show Ok _ (match g.open_.find? (fun (o : Ut14.Open) => o.tongue == t && (o.key == k && o.text == x)) with | none => (g, [-2]) | some o => _).1
    cases e : g.open_.find? (fun (o : Ut14.Open) => o.tongue == t && (o.key == k && o.text == x)) with
    | none => exact h6
    | some o =>
      have p1 : ∀ w ∈ (if th = true then Ut14.put g.work ⟨t, k, x, o.theirs⟩ else g.work), w.trans ≠ 0 := by
        split
        · exact put_pos h.wpos _
        · exact h.wpos
      have p2 : Apart (if th = true then Ut14.put g.work ⟨t, k, x, o.theirs⟩ else g.work) := by
        split
        · exact put_apart h.wnd _
        · exact h.wnd
      show Ok _ (if 60 < (if th = true then Ut14.put g.work ⟨t, k, x, o.theirs⟩ else g.work).length then (g, [-5]) else ({ g with work := if th = true then Ut14.put g.work ⟨t, k, x, o.theirs⟩ else g.work, open_ := Ut14.closed g.open_ t k x }, _)).1
      generalize (if th = true then Ut14.put g.work ⟨t, k, x, o.theirs⟩ else g.work) = l1 at p1 p2
      by_cases n : 60 < l1.length
      · rw [if_pos n]
        exact h6
      · rw [if_neg n]
        exact { h6 with wlen := by show l1.length ≤ 60; omega, wpos := p1, wnd := p2, olen := Nat.le_trans (closed_le ..) (by have := h.olen; omega) }
  | release t =>
    show Ok _ (if Ut14.TONGUES ≤ t then (g, [-1]) else if 12 ≤ g.released.length then (g, [-5]) else _).1
    split
    · exact h6
    · split
      · exact h6
      · rename_i n
        refine { h6 with rlen := ?_, rnum := ?_, rsrt := ?_, rll := ?_ }
        · show (g.released ++ [_]).length ≤ 12
          rw [List.length_append, List.length_singleton]
          omega
        · intro i r hr
          rcases snoc_at hr with z | ⟨z1, z2⟩
          · exact h.rnum i r z
          · rw [z2, z1]
        · intro r hr
          rcases List.mem_append.mp hr with z | z
          · exact h.rsrt r z
          · rw [List.mem_singleton.mp z]
            show (g.source.map (Ut14.lineOf g t)).Pairwise _
            rw [List.pairwise_map]
            exact h.srt.imp fun q => by rw [line_key, line_key]; exact q
        · intro r hr
          rcases List.mem_append.mp hr with z | z
          · exact h.rll r z
          · rw [List.mem_singleton.mp z]
            show (g.source.map (Ut14.lineOf g t)).length ≤ 10
            rw [List.length_map]
            exact h.slen
  | look r k => exact h6
  | now t => exact h6
  | todo t => exact h6
  | offer t k => exact h6
  | open_ t => exact h6
  | changed r s => exact h6
  | state => exact h6
end Tof

namespace Tof
/-! ### what is open: no place twice -/
def OkO (g : Ut14.House) : Prop := g.open_.Pairwise fun a b => ¬ (a.tongue = b.tongue ∧ a.key = b.key ∧ a.text = b.text)
theorem OkO.init : OkO Ut14.init := List.Pairwise.nil
theorem closed_oko {l : List Ut14.Open} (h : l.Pairwise fun a b => ¬ (a.tongue = b.tongue ∧ a.key = b.key ∧ a.text = b.text)) (t k x : Nat) : (Ut14.closed l t k x).Pairwise fun a b => ¬ (a.tongue = b.tongue ∧ a.key = b.key ∧ a.text = b.text) := h.sublist List.filter_sublist
theorem closed_add {l : List Ut14.Open} (h : l.Pairwise fun a b => ¬ (a.tongue = b.tongue ∧ a.key = b.key ∧ a.text = b.text)) (t k x n : Nat) : (Ut14.closed l t k x ++ [(⟨t, k, x, n⟩ : Ut14.Open)]).Pairwise fun a b => ¬ (a.tongue = b.tongue ∧ a.key = b.key ∧ a.text = b.text) := by
  rw [List.pairwise_append]
  refine ⟨closed_oko h t k x, List.pairwise_singleton .., fun a ha b hb => ?_⟩
  rw [List.mem_singleton.mp hb]
  have q := (List.mem_filter.mp ha).2
  rintro ⟨e1, e2, e3⟩
  have e1 : a.tongue = t := e1
  have e2 : a.key = k := e2
  have e3 : a.text = x := e3
  rw [e1, e2, e3, beq_self_eq_true, beq_self_eq_true, beq_self_eq_true] at q
  cases q
theorem backOne_oko {g : Ut14.House} (h : OkO g) (p : Ut14.Package) (m : Ut14.Item) (n : Nat) : OkO (Ut14.backOne g p m n) := by
  unfold Ut14.backOne
  dsimp only
  split
  · exact closed_oko h ..
  · split
    · exact closed_oko h ..
    · split
      · exact closed_add h ..
      · exact h
theorem backFrom_oko (p : Nat) : ∀ (l : List (Nat × Nat)) {g : Ut14.House}, OkO g → OkO (Ut14.backFrom p g l).1
  | [], g, h => h
  | (k, t) :: l, g, h => by
    unfold Ut14.backFrom
    split
    · exact backFrom_oko p l h
    · exact backFrom_oko p l (backOne_oko h _ _ _)
theorem oko_step {g : Ut14.House} (h : OkO g) (c : Ut14.Call) : OkO (Ut14.step g c).1 := by
  cases c with
  | text k x =>
    unfold Ut14.step
    dsimp only
    repeat' split
    all_goals exact h
  | gone k =>
    unfold Ut14.step
    dsimp only
    repeat' split
    all_goals exact h
  | translate t k w =>
    unfold Ut14.step
    dsimp only
    repeat' split
    all_goals exact h
  | send t l =>
    unfold Ut14.step
    dsimp only
    repeat' split
    all_goals exact h
  | back p l =>
    unfold Ut14.step
    dsimp only
    repeat' split
    all_goals first | exact h | exact backFrom_oko p l h
  | choose t k x b =>
    unfold Ut14.step
    dsimp only
    repeat' split
    all_goals first | exact h | exact closed_oko h t k x
  | release t =>
    unfold Ut14.step
    dsimp only
    repeat' split
    all_goals exact h
  | look _ _ => exact h
  | now _ => exact h
  | todo _ => exact h
  | offer _ _ => exact h
  | open_ _ => exact h
  | changed _ _ => exact h
  | state => exact h
/-- what is open under its own place -/
theorem open_at {l : List Ut14.Open} (h : l.Pairwise fun a b => ¬ (a.tongue = b.tongue ∧ a.key = b.key ∧ a.text = b.text)) {o : Ut14.Open} (m : o ∈ l) : (l.find? fun y => y.tongue == o.tongue && (y.key == o.key && y.text == o.text)) = some o := by
  induction l with
  | nil => cases m
  | cons a l ih =>
    obtain ⟨h1, h2⟩ := List.pairwise_cons.mp h
    rw [List.find?_cons]
    rcases List.mem_cons.mp m with z | z
    · rw [z, beq_self_eq_true, beq_self_eq_true, beq_self_eq_true]
      rfl
    · have c : (a.tongue == o.tongue && (a.key == o.key && a.text == o.text)) = false := by
        rw [← Bool.not_eq_true, Bool.and_eq_true, Bool.and_eq_true]
        rintro ⟨e1, e2, e3⟩
        exact h1 o z ⟨eq_of_beq e1, eq_of_beq e2, eq_of_beq e3⟩
      rw [c]
      exact ih h2 z
/-- the work under its own place -/
theorem work_of {l : List Ut14.Work} (h : l.Pairwise fun a b => ¬ (a.tongue = b.tongue ∧ a.key = b.key ∧ a.text = b.text)) {o : Ut14.Work} (m : o ∈ l) : Ut14.workOf l o.tongue o.key o.text = some o.trans := by
  unfold Ut14.workOf
  have e : (l.find? fun y => y.tongue == o.tongue && (y.key == o.key && y.text == o.text)) = some o := by
    induction l with
    | nil => cases m
    | cons a l ih =>
      obtain ⟨h1, h2⟩ := List.pairwise_cons.mp h
      rw [List.find?_cons]
      rcases List.mem_cons.mp m with z | z
      · rw [z, beq_self_eq_true, beq_self_eq_true, beq_self_eq_true]
        rfl
      · have c : (a.tongue == o.tongue && (a.key == o.key && a.text == o.text)) = false := by
          rw [← Bool.not_eq_true, Bool.and_eq_true, Bool.and_eq_true]
          rintro ⟨e1, e2, e3⟩
          exact h1 o z ⟨eq_of_beq e1, eq_of_beq e2, eq_of_beq e3⟩
        rw [c]
        exact ih h2 z
  rw [e]
  rfl
/-! ### what is offered -/
def lowest (m : Option Ut14.Work) (w : Ut14.Work) : Option Ut14.Work := match m with
  | none => some w
  | some y => if w.key < y.key then some w else some y
theorem lowest_some : ∀ (a : List Ut14.Work) (y : Ut14.Work), ∃ w, a.foldl lowest (some y) = some w ∧ (w = y ∨ w ∈ a) ∧ w.key ≤ y.key ∧ ∀ v ∈ a, w.key ≤ v.key
  | [], y => ⟨y, rfl, .inl rfl, Nat.le_refl _, nofun⟩
  | b :: a, y => by
    rw [List.foldl_cons]
    by_cases c : b.key < y.key
    · have e : lowest (some y) b = some b := if_pos c
      rw [e]
      obtain ⟨w, h1, h2, h3, h4⟩ := lowest_some a b
      refine ⟨w, h1, ?_, by omega, fun v hv => ?_⟩
      · rcases h2 with z | z
        · exact .inr (by rw [z]; exact List.mem_cons_self ..)
        · exact .inr (List.mem_cons_of_mem _ z)
      · rcases List.mem_cons.mp hv with z | z
        · rw [z]; exact h3
        · exact h4 v z
    · have e : lowest (some y) b = some y := if_neg c
      rw [e]
      obtain ⟨w, h1, h2, h3, h4⟩ := lowest_some a y
      refine ⟨w, h1, ?_, h3, fun v hv => ?_⟩
      · rcases h2 with z | z
        · exact .inl z
        · exact .inr (List.mem_cons_of_mem _ z)
      · rcases List.mem_cons.mp hv with z | z
        · rw [z]; omega
        · exact h4 v z
/-- the works of that text -/
def sameText (g : Ut14.House) (t x : Nat) : List Ut14.Work := g.work.filter fun w => w.tongue == t && w.text == x
def lastOf (l : List Ut14.Work) (t k : Nat) : Nat := (((l.filter fun w => w.tongue == t && w.key == k).getLast?).map fun w => w.trans).getD 0
theorem offered_eq (g : Ut14.House) (t k x : Nat) : Ut14.offered g t k x = match (sameText g t x).foldl lowest none with
    | some w => w.trans
    | none => lastOf g.work t k := rfl
theorem offered_none {g : Ut14.House} {t k x : Nat} (h : sameText g t x = []) : Ut14.offered g t k x = lastOf g.work t k := by
  rw [offered_eq, h]
  rfl
theorem offered_some {g : Ut14.House} (hw : g.work.Pairwise fun a b => ¬ (a.tongue = b.tongue ∧ a.key = b.key ∧ a.text = b.text)) {t k x m : Nat} (h1 : m ∈ (sameText g t x).map fun w => w.key) (h2 : ∀ y ∈ (sameText g t x).map (fun w => w.key), m ≤ y) : Ut14.offered g t k x = Ut14.says g t m x := by
  cases c : sameText g t x with
  | nil =>
    rw [c] at h1
    cases h1
  | cons b a =>
    obtain ⟨w, e1, e2, e3, e4⟩ := lowest_some a b
    have e5 : (sameText g t x).foldl lowest none = some w := by
      rw [c]
      exact e1
    have mw : w ∈ sameText g t x := by
      rw [c]
      rcases e2 with z | z
      · rw [z]; exact List.mem_cons_self ..
      · exact List.mem_cons_of_mem _ z
    have le : ∀ v ∈ sameText g t x, w.key ≤ v.key := fun v hv => by
      rw [c] at hv
      rcases List.mem_cons.mp hv with z | z
      · rw [z]; exact e3
      · exact e4 v z
    have ek : w.key = m := by
      obtain ⟨v, hv, ev⟩ := List.mem_map.mp h1
      have q1 := le v hv
      have q2 := h2 w.key (List.mem_map.mpr ⟨w, mw, rfl⟩)
      have ev : v.key = m := ev
      omega
    obtain ⟨f1, f2⟩ := List.mem_filter.mp mw
    rw [Bool.and_eq_true] at f2
    have ft := eq_of_beq f2.1
    have fx := eq_of_beq f2.2
    have q := work_of hw f1
    rw [ft, fx, ek] at q
    rw [offered_eq, e5]
    unfold Ut14.says
    rw [q]
    rfl
theorem last_take {l : List Ut14.Work} {t k i : Nat} {w : Ut14.Work} (h : l[i]? = some w) : lastOf (l.take (i + 1)) t k = if (w.tongue == t && w.key == k) = true then w.trans else lastOf (l.take i) t k := by
  have e : l.take (i + 1) = l.take i ++ [w] := by
    rw [List.take_add_one, h]
    rfl
  unfold lastOf
  rw [e, List.filter_append, List.filter_cons]
  by_cases c : (w.tongue == t && w.key == k) = true
  · rw [if_pos c, if_pos c, List.filter_nil, List.getLast?_append]
    rfl
  · rw [if_neg c, if_neg c, List.filter_nil, List.append_nil]
/-! ### releases -/
theorem rel_at {g : Ut14.House} (h : ∀ (i : Nat) (r : Nat × Nat × List (Nat × Nat × Bool)), g.released[i]? = some r → r.1 = i) (n : Nat) : Ut14.rel g n = g.released[n]? := by
  unfold Ut14.rel
  cases c : g.released[n]? with
  | none =>
    rw [List.find?_eq_none]
    intro r hr e
    obtain ⟨i, hi⟩ := List.mem_iff_getElem?.mp hr
    have e := eq_of_beq e
    rw [h i r hi] at e
    rw [e, c] at hi
    cases hi
  | some r =>
    have m : r ∈ g.released := List.mem_of_getElem? c
    cases d : g.released.find? fun x => x.1 == n with
    | none =>
      have q := List.find?_eq_none.mp d r m
      rw [h n r c] at q
      exact absurd (beq_self_eq_true n) q
    | some r' =>
      have e := List.find?_some d
      have e := eq_of_beq e
      obtain ⟨i, hi⟩ := List.mem_iff_getElem?.mp (List.mem_of_find?_eq_some d)
      rw [h i r' hi] at e
      rw [e, c] at hi
      exact hi.symm
abbrev Line := Nat × Nat × Bool
def lineAt (ls : List Line) (k : Nat) : Option Line := ls.find? fun x => x.1 == k
/-- what has changed: first those of the one, then those of the other alone -/
def chA (a b : List Line) : List Nat := (a.map fun x => x.1).filter fun k => !(lineAt a k == lineAt b k)
def chB (a b : List Line) : List Nat := (b.map fun x => x.1).filter fun k => !(lineAt a k).isSome
theorem lineAt_isSome (a : List Line) (k : Nat) : (lineAt a k).isSome = a.any fun x => x.1 == k := by
  unfold lineAt
  rw [Bool.eq_iff_iff, List.find?_isSome, List.any_eq_true]
theorem lineAt_key {a : List Line} {k : Nat} {l : Line} (h : lineAt a k = some l) : l.1 = k := eq_of_beq (List.find?_some (p := fun x : Line => x.1 == k) h)
theorem changed_eq (a b : List Line) : ((a.map (fun x => x.1) ++ (b.map (fun x => x.1)).filter fun k => !(a.any fun x => x.1 == k)).filter fun k => (a.find? fun x => x.1 == k) != (b.find? fun x => x.1 == k)) = chA a b ++ chB a b := by
  rw [List.filter_append]
  have e1 : ((a.map (fun x => x.1)).filter fun k => (a.find? fun x => x.1 == k) != (b.find? fun x => x.1 == k)) = chA a b := rfl
  have e2 : (((b.map (fun x => x.1)).filter fun k => !(a.any fun x => x.1 == k)).filter fun k => (a.find? fun x => x.1 == k) != (b.find? fun x => x.1 == k)) = chB a b := by
    have e3 : ((b.map (fun x => x.1)).filter fun k => !(a.any fun x => x.1 == k)) = chB a b := by
      unfold chB
      congr 1
      funext k
      rw [lineAt_isSome]
    rw [e3, List.filter_eq_self]
    intro k hk
    obtain ⟨m, q⟩ := List.mem_filter.mp hk
    obtain ⟨l, hl, el⟩ := List.mem_map.mp m
    have n : lineAt a k = none := by
      cases c : lineAt a k with
      | none => rfl
      | some z =>
        rw [c] at q
        cases q
    have s : (lineAt b k).isSome = true := by
      rw [lineAt_isSome, List.any_eq_true]
      exact ⟨l, hl, by rw [show l.1 = k from el]; exact beq_self_eq_true k⟩
    show (lineAt a k != lineAt b k) = true
    rw [n]
    cases d : lineAt b k with
    | none =>
      rw [d] at s
      cases s
    | some z => rfl
  rw [e1, e2]
/-! ### what is to do -/
theorem line_done {g : Ut14.House} {t : Nat} {e : Ut14.Entry} : (Ut14.bit (Ut14.lineOf g t e).2.2 = 0) ↔ (Ut14.workOf g.work t e.1 e.2).isNone = true := by
  unfold Ut14.lineOf
  cases Ut14.workOf g.work t e.1 e.2 with
  | none => exact ⟨fun _ => rfl, fun _ => rfl⟩
  | some w => exact ⟨fun h => absurd (show (1 : Nat) = 0 from h) (by decide), fun h => absurd h (by simp)⟩
/-! ### the steps that ask -/
section
variable {g : Ut14.House} {t k r s : Nat}
theorem step_look0 (h : Ut14.rel g r = none) : Ut14.step g (.look r k) = (g, [-2]) := by
  show (g, (match Ut14.rel g r with | none => _ | some x => _)) = _
  rw [h]
theorem step_look1 {x : Nat × Nat × List Line} (h : Ut14.rel g r = some x) (e : lineAt x.2.2 k = none) : Ut14.step g (.look r k) = (g, [-6]) := by
  show (g, (match Ut14.rel g r with | none => _ | some x => (match lineAt x.2.2 k with | none => _ | some y => _))) = _
  rw [h]
  dsimp only
  rw [e]
theorem step_look2 {x : Nat × Nat × List Line} {y : Line} (h : Ut14.rel g r = some x) (e : lineAt x.2.2 k = some y) : Ut14.step g (.look r k) = (g, Ut14.ints [y.2.1, Ut14.bit y.2.2]) := by
  show (g, (match Ut14.rel g r with | none => _ | some x => (match lineAt x.2.2 k with | none => _ | some y => _))) = _
  rw [h]
  dsimp only
  rw [e]
theorem step_now0 (h : Ut14.TONGUES ≤ t) : Ut14.step g (.now t) = (g, [-1]) := congrArg (Prod.mk g) (if_pos h)
theorem step_now1 (h : ¬ Ut14.TONGUES ≤ t) : Ut14.step g (.now t) = (g, Ut14.ints ((Ut14.build g t).length :: (Ut14.build g t).flatMap fun x => [x.1, x.2.1, Ut14.bit x.2.2])) := congrArg (Prod.mk g) (if_neg h)
theorem step_todo0 (h : Ut14.TONGUES ≤ t) : Ut14.step g (.todo t) = (g, [-1]) := congrArg (Prod.mk g) (if_pos h)
theorem step_todo1 (h : ¬ Ut14.TONGUES ≤ t) : Ut14.step g (.todo t) = (g, Ut14.ints ((Ut14.todoOf g t).length :: (Ut14.todoOf g t).flatMap fun e => [e.1, e.2, Ut14.offered g t e.1 e.2])) := congrArg (Prod.mk g) (if_neg h)
theorem step_offer0 (h : Ut14.TONGUES ≤ t) : Ut14.step g (.offer t k) = (g, [-1]) := congrArg (Prod.mk g) (if_pos h)
theorem step_offer1 (h : ¬ Ut14.TONGUES ≤ t) (e : Ut14.textOf g k = none) : Ut14.step g (.offer t k) = (g, [-2]) := by
  refine congrArg (Prod.mk g) ((if_neg h).trans ?_)
  rw [e]
theorem step_offer2 {x : Nat} (h : ¬ Ut14.TONGUES ≤ t) (e : Ut14.textOf g k = some x) : Ut14.step g (.offer t k) = (g, Ut14.ints [x, Ut14.says g t k x, Ut14.offered g t k x]) := by
  refine congrArg (Prod.mk g) ((if_neg h).trans ?_)
  rw [e]
def openOf (g : Ut14.House) (t : Nat) : List Ut14.Open := g.open_.filter fun o => o.tongue == t
theorem step_open0 (h : Ut14.TONGUES ≤ t) : Ut14.step g (.open_ t) = (g, [-1]) := congrArg (Prod.mk g) (if_pos h)
theorem step_open1 (h : ¬ Ut14.TONGUES ≤ t) : Ut14.step g (.open_ t) = (g, Ut14.ints ((openOf g t).length :: (openOf g t).flatMap fun o => [o.key, o.text, o.theirs, Ut14.says g t o.key o.text])) := congrArg (Prod.mk g) (if_neg h)
theorem step_ch0 (h : Ut14.rel g r = none) : Ut14.step g (.changed r s) = (g, [-2]) := by
  unfold Ut14.step
  dsimp only
  rw [h]
theorem step_ch1 (h : Ut14.rel g s = none) : Ut14.step g (.changed r s) = (g, [-2]) := by
  unfold Ut14.step
  dsimp only
  rw [h]
  cases Ut14.rel g r <;> rfl
theorem step_ch2 {a b : Nat × Nat × List Line} (h1 : Ut14.rel g r = some a) (h2 : Ut14.rel g s = some b) : Ut14.step g (.changed r s) = (g, Ut14.ints ((chA a.2.2 b.2.2 ++ chB a.2.2 b.2.2).length :: (chA a.2.2 b.2.2 ++ chB a.2.2 b.2.2))) := by
  rw [← changed_eq]
  unfold Ut14.step
  dsimp only
  rw [h1, h2]
end
end Tof

namespace Tof
open PySem PySem.Spec PyProof.Rows L2
/-! ### for k, v in d.items() where the keys are tuples -/
section
variable {X : Cx} {pins : List (Addr × Obj)} {σ : L2.St} {H : Hp} {s : Shared} {d : Addr} {o : Obj} {tab : List (List L2.Key × V)}
theorem locked_rows (I : Inv X pins σ H s) (hl : H d = some (.frz o (.dT tab))) :
    (d == sysModules) = false ∧ s.heap.get? d = some o ∧ o.ExactDict ∧ ∃ (rows : Array DictEntry) (ep : Nat), o.data = .dict rows ep ∧ rows.size = tab.length ∧
      ∀ (i : Nat) (k : List L2.Key) (v : V), tab[i]? = some (k, v) → ∃ (en : DictEntry) (q : Addr), rows[i]? = some en ∧ en.key = .ref q ∧ H q = some (.tup (k.map kV)) ∧ RelV v en.val := by
  obtain ⟨there, _, nm, xs, rel, o2, rows, ep, ho, ex, dat, ent, _⟩ := I.hok d _ hl
  rw [there] at ho
  cases ho
  refine ⟨nm, there, ex, rows, ep, dat, (size_of_entries ent).trans (Paired.length rel).symm, fun i k v e => ?_⟩
  obtain ⟨b, hb, _, e2, e3⟩ := paired_get rel e
  have z := entry_at ent i
  rw [hb] at z
  exact ⟨_, b.2.1, z, rfl, e2, e3⟩
/-- each turn a new pair: the key's own tuple, the value -/
def ItP (d : Addr) (o : Obj) (tab : List (List L2.Key × V)) : It :=
  ⟨fun i H => H d = some (.frz o (.dT tab)) ∧ i < tab.length,
   fun i H x H' => ∃ (T q : Addr) (k : List L2.Key) (v : V), tab[i]? = some (k, v) ∧ H q = some (.tup (k.map kV)) ∧ x = .ref T ∧ H T = none ∧ H' = upd H T (.tup [.ref q, v]),
   fun i H => H d = some (.frz o (.dT tab)) ∧ tab.length ≤ i⟩
theorem turn_P {P : Program} {w : World} {K : PySem.W.Frag} {elts : List Expr} {kk : Nat} {tpos : Pos} {rows : Array DictEntry} {ep : Nat} (it : Addr) (dat : o.data = .dict rows ep) :
    Turn P w K (.Tuple elts kk tpos) (ItP d o tab) [it] it (fun i h => ∃ x y, h.get? it = some (DVw.itmOb d .none i tab.length ep x y)) where
  mem := List.mem_singleton.mpr rfl
  obj := fun i h ⟨x, y, e⟩ b hb => by
    rw [List.mem_singleton.mp hb]
    exact ⟨_, e, fun v z => nomatch z⟩
  keep := fun i h h' ⟨x, y, e⟩ k => ⟨x, y, k it (List.mem_singleton.mpr rfl) _ e⟩
  item := by
    intro X hP hw hK hc i pins s σ H E I hf st hg
    subst hP hw hK
    obtain ⟨hd, hi⟩ := hg
    obtain ⟨nm, there, ex, rows2, ep2, dat2, sz, ent⟩ := locked_rows I hd
    obtain ⟨rfl, rfl⟩ := dict_ep dat dat2
    have hkv : tab[i]? = some (tab[i].1, tab[i].2) := List.getElem?_eq_getElem hi
    generalize tab[i].1 = k at hkv
    generalize tab[i].2 = v at hkv
    obtain ⟨en, q, hen, ek, hq, rv⟩ := ent i k v hkv
    obtain ⟨x, y, hit⟩ := st
    have lt : it < s.heap.objs.size := Heap.lt_size hit
    refine DVw.itm_item hit there dat sz hen fun h1 b1 b2 b3 b4 => ?_
    refine ⟨_, rfl, wpAny_letOwnedTupleGo_items (s := { s with heap := h1 }) (d := d) (i := i + 1) (n := tab.length) (ep := ep2) (ok := en.key) (ov := en.val) b1 fun h2 he sb => ?_⟩
    have two : h2.get? s.heap.objs.size = some { cls := .type "tuple", data := .seq #[en.key, en.val] } := (sb.2 _ (Nat.ne_of_gt lt)).trans b2
    have ok : ObjOk X.prog X.w (upd H s.heap.objs.size (.tup [.ref q, v])) h2 s.heap.objs.size (.tup [.ref q, v]) :=
      ⟨by show 2 ≤ sizeLine; decide, [en.key, en.val], .cons ek (.cons rv .nil), ⟨_, two, rfl, _, rfl⟩⟩
    have I2 : Inv X pins σ (upd H s.heap.objs.size (.tup [.ref q, v])) { s with heap := h2 } :=
      I.turnedNew (t' := s.toks) (ch := [it]) (fun b u nb z => (sb.2 b (fun e => nb (List.mem_singleton.mpr e))).trans (b4 b u (fun e => nb (List.mem_singleton.mpr e)) z)) hf (Nat.le_refl _) ok
    refine ⟨.ref s.heap.objs.size, _, I2, rfl, ⟨_, q, k, v, hkv, hq, rfl, I.hok.fresh (Nat.le_refl _), rfl⟩, ⟨en.key, en.val, he⟩, fun b hb => ?_⟩
    rw [List.mem_singleton.mp hb, upd_ne (Nat.ne_of_lt lt)]
    exact (hf it (List.mem_singleton.mpr rfl)).1
  done := by
    intro X hP hw hK hc i pins s σ H E I hf st hg
    subst hP hw hK
    obtain ⟨hd, hi⟩ := hg
    obtain ⟨f0, f1, f2, f3, f4, f5⟩ := hf it (List.mem_singleton.mpr rfl)
    obtain ⟨nm, there, ex, rows2, ep2, dat2, sz, ent⟩ := locked_rows I hd
    obtain ⟨rfl, rfl⟩ := dict_ep dat dat2
    obtain ⟨x, y, hit⟩ := st
    exact DVw.itm_end (I.ok.hd hc) hit there dat sz (Array.getElem?_eq_none (by rw [sz]; exact hi)) fun h1 eb => ⟨rfl, I.turned (t' := s.toks) (fun b u nb e => eb b u nb e) f0 f1 f3 f4 f5⟩
  self := fun A i s Q E ⟨_, _, e⟩ h => PySem.W.kcp_self e h
end
section
variable {X : Cx} {e : Expr} {td : TE} {apos cpos : Pos}
def iPairsT (td : TE) : TI := fun σ H R => td σ H fun x H1 => ∃ d o tab, x = .ref d ∧ H1 d = some (.frz o (.dT tab)) ∧ R (ItP d o tab) H1
theorem pi_pairsT {elts : List Expr} {kk : Nat} {tpos : Pos} (he : PE X e td) (hb : attributeBase e "items" X.env (eval e X.env) = eval e X.env := by rfl) (hl : (apos.endLine == cpos.line) = true := by rfl) :
    PI X (.Tuple elts kk tpos) (.Call (.Attribute e "items" apos) [] [] cpos) (iPairsT td) := by
  refine ⟨fun pins s σ H R I h => ?_⟩
  refine wpAny_Call_method (T := "dict") (id := "dict.items") hb rfl hl F.plainAttrs_dict F.slot_dict_items F.type_dict_items (thn (he.run pins s σ H _ I h) fun u s1 ⟨x, H1, I1, rx, d, o, tab, ex, hd, q⟩ => ?_)
  subst ex
  obtain rfl : u = Value.ref d := rx
  obtain ⟨nm, there, exd, rows, ep, dat, sz, ent⟩ := locked_rows I1 hd
  have raw : DT.Raw s1.heap d rows ep := ⟨o, there, exd, dat⟩
  refine ⟨raw.typeIs, ?_, ?_⟩
  · intro a ea
    cases ea
    exact ⟨o, there, exd.2.1⟩
  have I2 : Inv X pins σ H1 { s1 with heap := s1.heap.push (DSub.viewOb "dict_items" d) } := I1.kept (t' := s1.toks) fun b u z => Heap.get?_push_of_some _ z
  have fin : wpAny (model X.prog X.w) X.A (pyIter (.ref s1.heap.objs.size)) (PIE X pins σ (.Tuple elts kk tpos) R) X.xe { s1 with heap := s1.heap.push (DSub.viewOb "dict_items" d) } := by
    refine DSub.iter_itms (Heap.get?_push_size _ rfl) (Heap.get?_push_of_some _ there) dat ?_
    refine pi_one (tk := s1.toks) I2 _ (turn_P _ dat) ⟨.none, .none, ?_⟩ q
    rw [← sz]
    exact Heap.get?_push_size _ rfl
  show wpAny _ _ (callWith cpos (.builtin "dict.items") [.ref d] [] []) _ X.xe s1
  exact method_meetsIn F.slot_dict_items F.entry_dict_items rfl (PySem.evalArgs_none ⟨rfl, raw.typeIs, F.args_dict_items_1 _, _, DT.meetsItems (es := rows) (ep := ep) nm, raw, fin⟩)
end
end Tof

namespace Tof
open PySem PySem.Spec PyProof.Rows L2
abbrev sLook : Stmt := inClass cRc 18
abbrev sNow : Stmt := inClass cRc 19
abbrev sTodo : Stmt := inClass cRc 20
abbrev sOffer : Stmt := inClass cRc 21
abbrev sOffered : Stmt := inClass cRc 22
abbrev sUnset : Stmt := inClass cRc 23
abbrev sChanged : Stmt := inClass cRc 24
/-! ### locks -/
theorem unlock_new {H : Hp} {d D : Addr} {u x : HO} {o : Obj} (hd : H d = some u) (ne : d ≠ D) : upd (upd (upd H d (.frz o u)) D x) d u = upd H D x := by
  funext c
  unfold upd
  by_cases d1 : c = d
  · rw [if_pos d1, if_neg (by rw [d1]; exact ne), d1, hd]
  · rw [if_neg d1]
    by_cases d2 : c = D
    · rw [if_pos d2, if_pos d2]
    · rw [if_neg d2, if_neg d2, if_neg d1]
theorem same_unlock {H H' : Hp} {d : Addr} {u : HO} {o : Obj} (hd : H d = some u) (s : Same (upd H d (.frz o u)) H') : Same H (upd H' d u) := fun b v e => by
  by_cases c : b = d
  · rw [c, hd] at e
    rw [c, upd_same]
    exact e
  · rw [upd_ne c]
    exact s b v (by rw [upd_ne c]; exact e)
theorem walk_P {d : Addr} {o : Obj} {tab : List (List L2.Key × V)} : Walk (ItP d o tab) tab.length (fun H => H d = some (.frz o (.dT tab)))
    (fun i H x H' => ∃ (T q : Addr) (k : List L2.Key) (v : V), tab[i]? = some (k, v) ∧ H q = some (.tup (k.map kV)) ∧ x = .ref T ∧ H T = none ∧ H' = upd H T (.tup [.ref q, v])) :=
  ⟨fun _ _ hi q => ⟨q, hi⟩, fun _ q => ⟨q, Nat.le_refl _⟩, fun _ _ _ _ _ _ y => y⟩
section
variable {C CP : Addr} {L : Lay} {ro : Addr → Rl} {H H1 : Hp} {g : Ut14.House} {c : Ut14.Call} {Q : VK}
/-- a call that asks -/
theorem Ans.tell (h : Ans C CP L ro H g c Q) {ans : List Int} (e : Ut14.step g c = (g, ans)) (hA : At C CP L ro H g) (s : Same H H1) {p : Addr} (np : H p = none) (hp : H1 p = some (.lst (ans.map V.int))) : Q (.ref p) H1 :=
  h ro H1 p np (by rw [e]; exact hp) (hA.fresh p np) (by rw [e]; exact hA.same s) (Fr.same s)
end
/-! ### lines by their keys -/
theorem val_line {H : Hp} (k : Nat) : ∀ {ls : List Line} {es : List (L2.Key × V)}, Paired (LnAt H) ls es → (lineAt ls k = none ∧ valV es (nK k) = none) ∨ ∃ l t, lineAt ls k = some l ∧ valV es (nK k) = some (.ref t) ∧ H t = some (.tup [nV l.2.1, nV (Ut14.bit l.2.2)])
  | _, _, .nil => .inl ⟨rfl, rfl⟩
  | l :: ls, _, .cons ⟨t, e, ht⟩ p => by
    subst e
    unfold lineAt
    rw [List.find?_cons]
    by_cases c : l.1 = k
    · rw [show (l.1 == k) = true from by rw [c]; exact beq_self_eq_true k]
      exact .inr ⟨l, t, rfl, valV_pos (by rw [c]), ht⟩
    · rw [show (l.1 == k) = false from beq_false_of_ne c]
      have n : ¬ nK l.1 = nK k := fun z => c (by have := Sum.inl.inj z; omega)
      rw [valV_neg n]
      exact val_line k p
section
variable {P : Program} {w : World} {K : PySem.W.Frag} {mg : Str → Option Value} {base : Heap} {C CP : Addr}
/-! ### look_up -/
def spLook (C CP : Addr) : Sp := fun vs H Q _ => ∃ (L : Lay) (ro : Addr → Rl) (g : Ut14.House) (N r k : Nat), vs = [.ref L.a, nV r, nV k] ∧ At C CP L ro H g ∧ Ok N g ∧ Ans C CP L ro H g (.look r k) Q
theorem scLook : FnScope ["self", "number", "key", "shown"] ["self", "number", "key"] (defScope sLook) := ⟨rfl, rfl, rfl, by decide +kernel, rfl, by decide +kernel, by decide +kernel⟩
theorem ok_look {f : Addr} {fd : FuncData} (F : Fun K "look_up" "Records.look_up" sLook f fd) (T : Txt K mg C CP) : FnOk P w K mg base CX0 1 f fd ["self", "number", "key"] (spLook C CP) := by
  refine F.ok scLook (fun vs H Q E h => ?_) (fun cdv A outer s H vs Q E hr h => ⟨_, pss_cons
    (ps_if (pt_cmpR op_ge (pv 1) (pe_callB call_len_seq (by rfl) T.len PySem.boot_len (pa_cons (pe_fld (pv 0) rfl) pa_nil)) (nomark _)) (pss_one (ps_ret (pe_lst (pa_cons (pe_gi T.MISSING) pa_nil)))) pss_nil)
    (pss_cons (ps_set (i := 3) scLook.nd rfl (Or.inl rfl) (pe_ix ix_list (pe_fld (pv 0) rfl) (pv 1) (fun _ _ => rfl)))
    (pss_cons (ps_if (pt_cmp (pc_dnotin (hu_of hr) (pv 2) (pv 3))) (pss_one (ps_ret (pe_lst (pa_cons (pe_gi T.NOT_IN_RELEASE) pa_nil)))) pss_nil)
    (pss_one (ps_ret (pe_callTy call_list_of (by rfl) T.list (by decide +kernel) (pa_cons (pe_dget (hu_of hr) (pv 3) (pv 2) (fun _ _ => rfl)) pa_nil)))))), ?_⟩)
  · obtain ⟨L, ro, g, N, r, k, rfl, _⟩ := h
    rfl
  · obtain ⟨L, ro, g, N, r, k, rfl, hA, hO, q⟩ := h
    obtain ⟨rds, hp, hpl, hrl⟩ := hA.hR
    have gl : (rds.map V.ref).length = g.released.length := by rw [List.length_map, hpl]
    have re := rel_at hO.rnum r
    have one : ∀ (z : Int), Ut14.step g (.look r k) = (g, [z]) → 1 ≤ sizeLine ∧ ∀ p, H p = none → Q (.ref p) (upd H p (.lst [.int z])) := fun z e => ⟨by decide, fun p hp => q.no e hA (Same.refl H) p hp⟩
    refine ⟨_, rfl, _, rfl, L.a, C, L.dx, _, _, rfl, hA.hA, T.cl, T.nR, rF_releases, L.lR, _, rfl, .inl (SqL.of hp), _, _, rfl, rfl, _, rfl, ?_⟩
    rw [gl]
    cases c3 : g.released[r]? with
    | none =>
      have := List.getElem?_eq_none_iff.mp c3
      exact if_true_of (decide_eq_true (by omega)) (one _ (step_look0 (re.trans c3)))
    | some x =>
      have hlt := (List.getElem?_eq_some_iff.mp c3).1
      refine if_false_of (decide_eq_false (by omega)) ?_
      obtain ⟨rd, q1, es, hd, _, pr⟩ := hrl r x c3
      refine ⟨_, rfl, L.a, C, L.dx, _, _, rfl, hA.hA, T.cl, T.nR, rF_releases, _, rfl, L.lR, _, _, V.ref rd, rfl, rfl, SqL.of hp, atI_nat (by rw [List.getElem?_map, q1]; rfl), ?_⟩
      refine ⟨_, rfl, _, rfl, rd, _, rfl, DGet.k (k := nK k) hd, _, rfl, ?_⟩
      rcases val_line k pr with ⟨e1, e2⟩ | ⟨l, t, e1, e2, e3⟩
      · rw [e2]
        exact if_true_of (by rfl) (one _ (step_look1 (re.trans c3) e1))
      · rw [e2]
        refine if_false_of (by rfl) ?_
        refine ⟨_, rfl, _, rfl, rd, .ref t, rfl, (by have z := DGet.k (k := nK k) hd; rw [e2] at z; exact z), t, _, rfl, .inr (SqT.of e3), fun p hp => ?_⟩
        exact q.done (step_look2 (re.trans c3) e1) hA (Fr.same (Same.refl H)) (fun b e => e) p hp
/-! ### offered_for -/
def spOffered (C CP : Addr) : Sp := fun vs H Q _ => ∃ (L : Lay) (ro : Addr → Rl) (g : Ut14.House) (N t k x : Nat), vs = [.ref L.a, nV t, nV k] ∧ At C CP L ro H g ∧ Ok N g ∧ Ut14.textOf g k = some x ∧ ∀ H', Same H H' → Q (nV (Ut14.offered g t k x)) H'
theorem scOffered : FnScope ["self", "tongue", "key", "text", "same_text", "came_last", "place", "translation"] ["self", "tongue", "key"] (defScope sOffered) := ⟨rfl, rfl, rfl, by decide +kernel, rfl, by decide +kernel, by decide +kernel⟩
end
end Tof

namespace Tof
open PySem PySem.Spec PyProof.Rows L2
theorem filter_more {α : Type} {l : List α} {p : α → Bool} {i : Nat} {x : α} (h : l[i]? = some x) : (l.take (i + 1)).filter p = (l.take i).filter p ++ (if p x = true then [x] else []) := by
  rw [take_more h, List.filter_append, List.filter_cons, List.filter_nil]
theorem wrk_at {l : List Ut14.Work} {i : Nat} {k : List L2.Key} {v : V} (h : (l.map wKV)[i]? = some (k, v)) : ∃ w, l[i]? = some w ∧ k = pl w.tongue w.key w.text ∧ v = nV w.trans := by
  rw [List.getElem?_map] at h
  cases e : l[i]? with
  | none =>
    rw [e] at h
    cases h
  | some w =>
    rw [e] at h
    have h := Option.some.inj h
    exact ⟨w, rfl, (congrArg Prod.fst h).symm, (congrArg Prod.snd h).symm⟩
section
variable {P : Program} {w : World} {K : PySem.W.Frag} {mg : Str → Option Value} {base : Heap} {C CP : Addr}
abbrev nOffered : List Str := ["self", "tongue", "key", "text", "same_text", "came_last", "place", "translation"]
theorem ok_offered {f : Addr} {fd : FuncData} (F : Fun K "offered_for" "Records.offered_for" sOffered f fd) (T : Txt K mg C CP) (M2 : MCal P w K mg base C "work_at" 1 ["self", "place"] (spWorkAt C CP)) : FnOk P w K mg base CX0 2 f fd ["self", "tongue", "key"] (spOffered C CP) := by
  obtain ⟨f2, fd2, m2, F2, b2⟩ := M2
  refine F.ok scOffered (fun vs H Q E h => ?_) (fun cdv A outer s H vs Q E hr h => ⟨_, pss_cons
    (ps_set (i := 3) scOffered.nd rfl (Or.inr rfl) (pe_dget (hu_of hr) (pe_fld (pv 0) rfl) (pv 2) (fun _ _ => rfl)))
    (pss_cons (ps_lock (ps_setLc (i := 4) (own := [("place", 6)]) (g := gName 6) (tt := tAnd (tTest (tOp rEq (tOp (rIxT K) (tVar 6) (tC (.int 0))) (tVar 1))) (tTest (tOp rEq (tOp (rIxT K) (tVar 6) (tC (.int 2))) (tVar 3)))) (te := tOp (rIxT K) (tVar 6) (tC (.int 1))) rfl scOffered.nd rfl rfl (sw_true rfl rfl rfl (by decide +kernel)) (pi_keys (pe_fld (pv 0) rfl)) (blkOk_by (own := [("place", 6)]) (N := nOffered) (sc := defScope sOffered) (by decide +kernel))
      (fun _ _ _ _ _ => pg_name (i := 6) scOffered.nd rfl (Or.inl rfl)) (fun _ _ _ _ _ => pts_one (PW.pt (pw_and (pt_cmpR op_eq (pe_ix ix_tup (pv 6) pe_int (fun _ _ => rfl)) (pv 1) (nomark _)) (pw_and1 (pt_cmpR op_eq (pe_ix ix_tup (pv 6) pe_int (fun _ _ => rfl)) (pv 3) (nomark _)))))) (fun _ _ _ _ _ => pe_ix ix_tup (pv 6) pe_int (fun _ _ => rfl))))
    (pss_cons (ps_if (pt_cmpR op_gt (pe_callB call_len_seq (by rfl) T.len PySem.boot_len (pa_cons (pv 4) pa_nil)) pe_int (nomark _)) (pss_one (ps_ret (pe_meth (pv 0) T.cl m2 F2 hr b2 .nil pass0 (pa_cons (pe_tup (pa_cons (pv 1) (pa_cons (pe_callB (cr_min rfl) (by rfl) T.min (by decide +kernel) (pa_cons (pv 4) pa_nil)) (pa_cons (pv 3) pa_nil)))) pa_nil)))) pss_nil)
    (pss_cons (ps_set (i := 5) scOffered.nd rfl (Or.inl rfl) pe_int)
    (pss_cons (ps_lock (ps_for PassesOwn.never rfl (pi_pairsT (pe_fld (pv 0) rfl)) (pg_tup rfl (pgs_cons (pg_name (i := 6) scOffered.nd rfl (Or.inl rfl)) (pgs_cons (pg_name (i := 7) scOffered.nd rfl (Or.inl rfl)) pgs_nil)))
      (pss_one (ps_if (PW.pt (pw_and (pt_cmpR op_eq (pe_ix ix_tup (pv 6) pe_int (fun _ _ => rfl)) (pv 1) (nomark _)) (pw_and1 (pt_cmpR op_eq (pe_ix ix_tup (pv 6) pe_int (fun _ _ => rfl)) (pv 2) (nomark _))))) (pss_one (ps_set (i := 5) scOffered.nd rfl (Or.inl rfl) (pv 7))) pss_nil))))
    (pss_one (ps_ret (pv 5))))))), ?_⟩)
  · obtain ⟨L, ro, g, N, t, k, x, rfl, _⟩ := h
    rfl
  · obtain ⟨L, ro, g, N, t, k, x, rfl, hA, hO, hx, q⟩ := h
    obtain ⟨src, hs, hperm⟩ := hA.hS
    have hv : ∀ k, valV (src.map eKV) (nK k) = (Ut14.textOf g k).map nV := val_src hperm hO.srt
    have naw : L.a ≠ L.dW := fun z => by
      have := hA.rA
      rw [z, hA.rW] at this
      cases this
    refine ⟨_, rfl, L.a, C, L.dx, _, _, rfl, hA.hA, T.cl, T.nS, rF_source, _, rfl, L.dS, nV x, rfl, (by have z := DGet.k (k := nK k) hs; rw [hv, hx] at z; exact z), ?_⟩
    -- same_text, under a lock
    refine ⟨L.dW, _, hA.hW, trivial, fun od => ⟨_, rfl, L.a, C, L.dx, _, _, rfl, by rw [upd_ne naw]; exact hA.hA, T.cl, T.nW, rF_work, L.dW, od, rfl, .inr ⟨_, upd_same, fun D hD => ?_⟩⟩⟩
    have hD0 : H D = none := upd_free hD
    have nDW : L.dW ≠ D := ne_of_none hA.hW hD0
    refine lc_it (walk_keysT (d := L.dW) (o := od) (kvs := g.work.map wKV)) (vs := [6]) (fun i H' => H' = upd (upd H L.dW (.frz od (.dT (g.work.map wKV)))) D (.lst (((g.work.take i).filter fun w => w.tongue == t && w.text == x).map fun w => nV w.key))) rfl (fun i H' _ e => by rw [e, upd_ne nDW]; exact upd_same) ?_ ?_
    · rintro i y H5 H6 hi rfl ⟨rfl, kk, v, qa, hk, rfl, hq⟩
      obtain ⟨wk, hw, rfl, rfl⟩ := wrk_at hk
      show wipe _ _ = wipe _ _ ∧ _
      refine ⟨rfl, ?_⟩
      have fm := filter_more (p := fun w => w.tongue == t && w.text == x) hw
      refine ⟨_, rfl, qa, _, _, nV wk.tongue, rfl, rfl, SqT.of hq, rfl, _, rfl, rfl, _, rfl, ?_⟩
      rw [vint_eq]
      by_cases c1 : wk.tongue = t
      · refine if_true_of (decide_eq_true c1) ?_
        refine ⟨_, rfl, qa, _, _, nV wk.text, rfl, rfl, SqT.of hq, rfl, _, rfl, rfl, _, rfl, ?_⟩
        rw [vint_eq]
        by_cases c2 : wk.text = x
        · refine if_true_of (decide_eq_true c2) ?_
          refine ⟨_, rfl, qa, _, _, nV wk.key, rfl, rfl, SqT.of hq, rfl, _, upd_same, small1000 ?_, ?_⟩
          · rw [List.length_map]
            have := List.length_filter_le (fun w : Ut14.Work => w.tongue == t && w.text == x) (g.work.take i)
            have := List.length_take_le' i g.work
            have := hO.wlen
            omega
          · rw [upd_upd, fm, if_pos (by rw [c1, c2, beq_self_eq_true, beq_self_eq_true]; rfl), List.map_append]
            rfl
        · refine if_false_of (decide_eq_false c2) ?_
          rw [fm, if_neg (by rw [beq_false_of_ne c2, Bool.and_false]; exact Bool.false_ne_true), List.append_nil]
      · refine if_false_of (decide_eq_false c1) ?_
        refine iteF ?_
        rw [fm, if_neg (by rw [beq_false_of_ne c1, Bool.false_and]; exact Bool.false_ne_true), List.append_nil]
    · rintro H5 e5
      rw [List.length_map, List.take_length] at e5
      subst e5
      refine ⟨by rw [upd_ne nDW]; exact upd_same, ?_⟩
      rw [unlock_new hA.hW nDW]
      have s1 := upd_new (o := .lst ((g.work.filter fun w => w.tongue == t && w.text == x).map fun w => nV w.key)) hD0
      have hD1 : upd H D (.lst ((g.work.filter fun w => w.tongue == t && w.text == x).map fun w => nV w.key)) D = some (.lst ((sameText g t x).map fun w => nV w.key)) := upd_same
      generalize upd H D (.lst ((g.work.filter fun w => w.tongue == t && w.text == x).map fun w => nV w.key)) = H1 at s1 hD1
      have hA1 := hA.same s1
      refine ⟨_, rfl, D, _, rfl, .inl (SqL.of hD1), _, _, rfl, rfl, _, rfl, ?_⟩
      rw [List.length_map]
      cases cs : sameText g t x with
      | cons w0 ws =>
        refine if_true_of (decide_eq_true (by rw [List.length_cons]; omega)) ?_
        refine ⟨_, rfl, L.a, L.dx, _, rfl, hA1.hA, rF_none (by decide +kernel), _, rfl, _, rfl, D, (sameText g t x).map (fun w => (w.key : Int)), rfl, SqL.of (by rw [hD1, List.map_map]; rfl), by rw [List.length_map, cs]; exact Nat.succ_pos _, fun m hm hle => ?_⟩
        obtain ⟨wm, hwm, rfl⟩ := List.mem_map.mp hm
        refine ⟨_, rfl, by show 3 ≤ sizeLine; decide, fun b nb => ?_⟩
        refine ⟨L, ro, g, b, t, wm.key, x, rfl, hA1.new nb, upd_same, ?_⟩
        rw [← offered_some hO.wnd (k := k) (List.mem_map.mpr ⟨wm, hwm, rfl⟩) fun y hy => ?_]
        · exact q _ (s1.trans (upd_new nb))
        · obtain ⟨wy, hwy, rfl⟩ := List.mem_map.mp hy
          have := hle _ (List.mem_map.mpr ⟨wy, hwy, rfl⟩)
          omega
      | nil =>
        refine if_false_of (by decide) ?_
        have hW1 := hA1.hW
        rw [offered_none cs] at q
        refine ⟨L.dW, _, hW1, trivial, fun o2 => ⟨_, rfl, L.a, C, L.dx, _, _, rfl, by rw [upd_ne naw]; exact hA1.hA, T.cl, T.nW, rF_work, L.dW, o2, _, rfl, upd_same, ?_⟩⟩
        refine for_it (walk_P (d := L.dW) (o := o2) (tab := g.work.map wKV)) (fun i σ H' => ∃ v6 v7 : Option V, σ = [some (.ref L.a), some (nV t), some (nV k), some (nV x), some (.ref D), some (nV (lastOf (g.work.take i) t k)), v6, v7] ∧ Same (upd H1 L.dW (.frz o2 (.dT (g.work.map wKV)))) H') ⟨none, none, rfl, Same.refl _⟩ (fun i σ H' _ ⟨_, _, _, s5⟩ => s5 _ _ upd_same) ?_ ?_
        · rintro i y σ H5 H6 hi ⟨v6, v7, rfl, s5⟩ ⟨T2, qa, kk, v, hk, hq, rfl, hT, rfl⟩
          obtain ⟨wk, hw, rfl, rfl⟩ := wrk_at hk
          have s6 := s5.trans (upd_new (o := .tup [.ref qa, nV wk.trans]) hT)
          have hq6 := upd_new (o := .tup [.ref qa, nV wk.trans]) hT _ _ hq
          have lt := last_take (t := t) (k := k) hw
          refine ⟨T2, _, rfl, SqT.of upd_same, rfl, _, _, rfl, _, _, rfl, rfl, ?_⟩
          refine ⟨_, rfl, qa, _, _, nV wk.tongue, rfl, rfl, SqT.of hq6, rfl, _, rfl, rfl, _, rfl, ?_⟩
          rw [vint_eq]
          by_cases c1 : wk.tongue = t
          · refine if_true_of (decide_eq_true c1) ?_
            refine ⟨_, rfl, qa, _, _, nV wk.key, rfl, rfl, SqT.of hq6, rfl, _, rfl, rfl, _, rfl, ?_⟩
            rw [vint_eq]
            by_cases c2 : wk.key = k
            · refine if_true_of (decide_eq_true c2) ?_
              rw [if_pos (by rw [c1, c2, beq_self_eq_true, beq_self_eq_true]; rfl)] at lt
              refine ⟨_, rfl, some (.ref qa), some (nV wk.trans), ?_, s6⟩
              rw [lt]
              rfl
            · refine if_false_of (decide_eq_false c2) ?_
              rw [if_neg (by rw [beq_false_of_ne c2, Bool.and_false]; exact Bool.false_ne_true)] at lt
              refine ⟨some (.ref qa), some (nV wk.trans), ?_, s6⟩
              rw [lt]
              rfl
          · refine if_false_of (decide_eq_false c1) ?_
            refine iteF ?_
            rw [if_neg (by rw [beq_false_of_ne c1, Bool.false_and]; exact Bool.false_ne_true)] at lt
            refine ⟨some (.ref qa), some (nV wk.trans), ?_, s6⟩
            rw [lt]
            rfl
        · rintro σ H5 ⟨v6, v7, rfl, s5⟩
          rw [List.length_map, List.take_length]
          exact ⟨s5 _ _ upd_same, _, rfl, q _ (s1.trans (same_unlock hW1 s5))⟩
end
end Tof

namespace Tof
open PySem PySem.Spec PyProof.Rows L2
theorem ints_V (l : List Nat) : (Ut14.ints l).map V.int = l.map nV := by
  unfold Ut14.ints
  rw [List.map_map]
  rfl
theorem ext_more {α : Type} {l : List α} {f : α → List Nat} {n i : Nat} {x : α} (h : l[i]? = some x) : (n :: (l.take i).flatMap f).map nV ++ (f x).map nV = (n :: (l.take (i + 1)).flatMap f).map nV := by
  rw [take_more h, List.flatMap_append, List.flatMap_cons, List.flatMap_nil, List.append_nil, ← List.map_append]
  rfl
theorem flat_lenN {α : Type} {f : α → List Nat} {n : Nat} (h : ∀ a, (f a).length = n) : ∀ l : List α, (l.flatMap f).length = n * l.length
  | [] => rfl
  | a :: l => by
    rw [List.flatMap_cons, List.length_append, h a, flat_lenN h l, List.length_cons, Nat.mul_succ]
    omega
theorem ext_len {α : Type} {f : α → List Nat} {n m i : Nat} {l : List α} (h : ∀ a, (f a).length = n) : ((m :: (l.take i).flatMap f).map nV).length ≤ n * l.length + 1 := by
  rw [List.length_map, List.length_cons, flat_lenN h]
  have := Nat.mul_le_mul_left n (List.length_take_le' i l)
  omega
section
variable {P : Program} {w : World} {K : PySem.W.Frag} {mg : Str → Option Value} {base : Heap} {C CP : Addr}
/-! ### make_offer -/
def spOffer (C CP : Addr) : Sp := fun vs H Q _ => ∃ (L : Lay) (ro : Addr → Rl) (g : Ut14.House) (N t k : Nat), vs = [.ref L.a, nV t, nV k] ∧ At C CP L ro H g ∧ Ok N g ∧ Ans C CP L ro H g (.offer t k) Q
theorem scOffer : FnScope ["self", "tongue", "key", "text"] ["self", "tongue", "key"] (defScope sOffer) := ⟨rfl, rfl, rfl, by decide +kernel, rfl, by decide +kernel, by decide +kernel⟩
theorem ok_offer {f : Addr} {fd : FuncData} (F : Fun K "make_offer" "Records.make_offer" sOffer f fd) (T : Txt K mg C CP) (M2 : MCal P w K mg base C "work_at" 1 ["self", "place"] (spWorkAt C CP)) (M3 : MCal P w K mg base C "offered_for" 2 ["self", "tongue", "key"] (spOffered C CP)) :
    FnOk P w K mg base CX0 3 f fd ["self", "tongue", "key"] (spOffer C CP) := by
  obtain ⟨f2, fd2, m2, F2, b2⟩ := M2
  obtain ⟨f3, fd3, m3, F3, b3⟩ := M3
  refine F.ok scOffer (fun vs H Q E h => ?_) (fun cdv A outer s H vs Q E hr h => ⟨_, pss_cons
    (ps_if (pt_cmpR op_gt (pv 1) (pe_gi T.LAST_TONGUE) (nomark _)) (pss_one (ps_ret (pe_lst (pa_cons (pe_gi T.NOT_AS_TOLD) pa_nil)))) pss_nil)
    (pss_cons (ps_if (pt_cmp (pc_dnotin (hu_of hr) (pv 2) (pe_fld (pv 0) rfl))) (pss_one (ps_ret (pe_lst (pa_cons (pe_gi T.MISSING) pa_nil)))) pss_nil)
    (pss_cons (ps_set (i := 3) scOffer.nd rfl (Or.inl rfl) (pe_dget (hu_of hr) (pe_fld (pv 0) rfl) (pv 2) (fun _ _ => rfl)))
    (pss_one (ps_ret (pe_lst (pa_cons (pv 3) (pa_cons (pe_meth (pv 0) T.cl m2 F2 (hr.mono (by decide)) b2 .nil pass0 (pa_cons (pe_tup (pa_cons (pv 1) (pa_cons (pv 2) (pa_cons (pv 3) pa_nil)))) pa_nil)) (pa_cons (pe_meth (pv 0) T.cl m3 F3 hr b3 .nil pass0 (pa_cons (pv 1) (pa_cons (pv 2) pa_nil))) pa_nil)))))))), ?_⟩)
  · obtain ⟨L, ro, g, N, t, k, rfl, _⟩ := h
    rfl
  · obtain ⟨L, ro, g, N, t, k, rfl, hA, hO, q⟩ := h
    obtain ⟨src, hs, hperm⟩ := hA.hS
    have hv : valV (src.map eKV) (nK k) = (Ut14.textOf g k).map nV := val_src hperm hO.srt k
    have one : ∀ (z : Int), Ut14.step g (.offer t k) = (g, [z]) → 1 ≤ sizeLine ∧ ∀ p, H p = none → Q (.ref p) (upd H p (.lst [.int z])) := fun z e => ⟨by decide, fun p hp => q.no e hA (Same.refl H) p hp⟩
    refine ⟨_, rfl, _, _, rfl, rfl, _, rfl, ?_⟩
    by_cases c1 : 3 < t
    · exact if_true_of (decide_eq_true (by omega)) (one _ (step_offer0 c1))
    refine if_false_of (decide_eq_false (by omega)) ?_
    have n1 : ¬ Ut14.TONGUES ≤ t := c1
    refine ⟨_, rfl, _, rfl, L.a, C, L.dx, _, _, rfl, hA.hA, T.cl, T.nS, rF_source, L.dS, _, rfl, DGet.k (k := nK k) hs, _, rfl, ?_⟩
    rw [hv]
    cases e : Ut14.textOf g k with
    | none => exact if_true_of (by rfl) (one _ (step_offer1 n1 e))
    | some x =>
      refine if_false_of (by rfl) ?_
      refine ⟨_, rfl, L.a, C, L.dx, _, _, rfl, hA.hA, T.cl, T.nS, rF_source, _, rfl, L.dS, nV x, rfl, (by have z := DGet.k (k := nK k) hs; rw [hv, e] at z; exact z), ?_⟩
      refine ⟨_, rfl, _, rfl, L.a, L.dx, _, rfl, hA.hA, rF_none (by decide +kernel), _, rfl, _, rfl, _, rfl, by show 3 ≤ sizeLine; decide, fun b nb => ?_⟩
      have s1 := upd_new (o := .tup [nV t, nV k, nV x]) nb
      have hA1 := hA.same s1
      refine ⟨L, ro, g, b, t, k, x, rfl, hA1, upd_same, ?_⟩
      refine ⟨_, rfl, L.a, L.dx, _, rfl, hA1.hA, rF_none (by decide +kernel), _, rfl, _, rfl, L, ro, g, N, t, k, x, rfl, hA1, hO, e, fun H2 s2 => ⟨by show 3 ≤ sizeLine; decide, fun p hp => ?_⟩⟩
      have s3 := s1.trans s2
      exact q.done (step_offer2 n1 e) (hA.same s3) (Fr.same s3) (fun c hc => s3.free hc) p hp
/-! ### list_now -/
def nowOf (x : Line) : List Nat := [x.1, x.2.1, Ut14.bit x.2.2]
def spNow (C CP : Addr) : Sp := fun vs H Q _ => ∃ (L : Lay) (ro : Addr → Rl) (g : Ut14.House) (N t : Nat), vs = [.ref L.a, nV t] ∧ At C CP L ro H g ∧ Ok N g ∧ Ans C CP L ro H g (.now t) Q
theorem scNow : FnScope ["self", "tongue", "shown", "answer", "key", "row"] ["self", "tongue"] (defScope sNow) := ⟨rfl, rfl, rfl, by decide +kernel, rfl, by decide +kernel, by decide +kernel⟩
theorem ok_now {f : Addr} {fd : FuncData} (F : Fun K "list_now" "Records.list_now" sNow f fd) (T : Txt K mg C CP) (MS : MCal P w K mg base C "shown_now" 2 ["self", "tongue"] (spShown C CP)) : FnOk P w K mg base CX0 3 f fd ["self", "tongue"] (spNow C CP) := by
  obtain ⟨f2, fd2, m2, F2, b2⟩ := MS
  refine F.ok scNow (fun vs H Q E h => ?_) (fun cdv A outer s H vs Q E hr h => ⟨_, pss_cons
    (ps_if (pt_cmpR op_gt (pv 1) (pe_gi T.LAST_TONGUE) (nomark _)) (pss_one (ps_ret (pe_lst (pa_cons (pe_gi T.NOT_AS_TOLD) pa_nil)))) pss_nil)
    (pss_cons (ps_set (i := 2) scNow.nd rfl (Or.inl rfl) (pe_meth (pv 0) T.cl m2 F2 hr b2 .nil pass0 (pa_cons (pv 1) pa_nil)))
    (pss_cons (ps_set (i := 3) scNow.nd rfl (Or.inl rfl) (pe_lst (pa_cons (pe_callB call_lenD (by rfl) T.len PySem.boot_len (pa_cons (pv 2) pa_nil)) pa_nil)))
    (pss_cons (ps_lock (ps_for PassesOwn.never rfl (pi_items (pv 2)) (pg_tup rfl (pgs_cons (pg_name (i := 4) scNow.nd rfl (Or.inl rfl)) (pgs_cons (pg_name (i := 5) scNow.nd rfl (Or.inl rfl)) pgs_nil)))
      (pss_one (ps_expr (pe_bm PySem.F.plainAttrs_list PySem.F.slot_list_extend PySem.F.type_list_extend mt_extend (pv 3) (pa_cons (pe_lst (pa_cons (pv 4) (pa_cons (pe_ix ix_tup (pv 5) pe_int (fun _ _ => rfl)) (pa_cons (pe_ix ix_tup (pv 5) pe_int (fun _ _ => rfl)) pa_nil)))) pa_nil))))))
    (pss_one (ps_ret (pv 3)))))), ?_⟩)
  · obtain ⟨L, ro, g, N, t, rfl, _⟩ := h
    rfl
  · obtain ⟨L, ro, g, N, t, rfl, hA, hO, q⟩ := h
    have zl : sizeLine = 16777216 := sizeLine_eq
    have one : ∀ (z : Int), Ut14.step g (.now t) = (g, [z]) → 1 ≤ sizeLine ∧ ∀ p, H p = none → Q (.ref p) (upd H p (.lst [.int z])) := fun z e => ⟨by decide, fun p hp => q.no e hA (Same.refl H) p hp⟩
    refine ⟨_, rfl, _, _, rfl, rfl, _, rfl, ?_⟩
    by_cases c1 : 3 < t
    · exact if_true_of (decide_eq_true (by omega)) (one _ (step_now0 c1))
    refine if_false_of (decide_eq_false (by omega)) ?_
    have st := step_now1 (g := g) (t := t) c1
    refine ⟨_, rfl, L.a, L.dx, _, rfl, hA.hA, rF_none (by decide +kernel), _, rfl, L, ro, g, N, t, rfl, hA, hO, fun H1 rd es s1 nrd hrd pr => ?_⟩
    have el : es.length = (Ut14.build g t).length := (paired_len pr).symm
    have bl : (Ut14.build g t).length ≤ 10 := by
      unfold Ut14.build
      rw [List.length_map]
      exact hO.slen
    refine ⟨_, rfl, rd, es, rfl, hrd, by show 1 ≤ sizeLine; decide, fun p hp => ?_⟩
    have np : H p = none := s1.free hp
    have nrp : rd ≠ p := ne_of_none hrd hp
    have s2 := s1.trans (upd_new (o := .lst [.int (es.length : Nat)]) hp)
    refine ⟨rd, .dK es, (by rw [upd_ne nrp]; exact hrd), trivial, fun od => ⟨_, rfl, rd, od, es, rfl, upd_same, ?_⟩⟩
    refine for_it (walk_items (d := rd) (o := od) (kvs := es)) (fun i σ H' => ∃ v4 v5 : Option V, σ = [some (.ref L.a), some (nV t), some (.ref rd), some (.ref p), v4, v5] ∧ Same H H' ∧ H' rd = some (.frz od (.dK es)) ∧
        H' p = some (.lst (((Ut14.build g t).length :: ((Ut14.build g t).take i).flatMap nowOf).map nV)) ∧ Paired (LnAt H') (Ut14.build g t) es) ?_ (fun i σ H' _ ⟨_, _, _, _, z, _⟩ => z) ?_ ?_
    · refine ⟨none, none, rfl, fun c o e => by rw [upd_ne (ne_of_none e nrd)]; exact s2 c o e, upd_same, ?_, Paired.mapP pr fun x y z => z.keep fun c us ec => ?_⟩
      · rw [upd_ne nrp.symm, upd_same, el]
        rfl
      · rw [upd_ne (ne_of ec hrd (fun z => nomatch z)), upd_ne (ne_of_none ec hp)]
        exact ec
    · rintro i y σ H5 H6 hi ⟨v4, v5, rfl, s5, hr5, hp5, pr5⟩ ⟨T2, kx, vx, rfl, hT, rfl, h1, h2⟩
      obtain ⟨e, he⟩ : ∃ e, es[i]? = some e := ⟨es[i], List.getElem?_eq_getElem hi⟩
      have h1 : es[i]?.map (fun kv => kV kv.1) = some kx := h1
      have h2 : es[i]?.map Prod.snd = some vx := h2
      rw [he] at h1 h2
      obtain ⟨ln, hl, tt, e1, e2⟩ := paired_at pr5 he
      subst e1
      have h1 := Option.some.inj h1
      have h2 := Option.some.inj h2
      subst h1 h2
      have s56 := upd_new (o := .tup [kV (nK ln.1), .ref tt]) hT
      have hr6 := s56 _ _ hr5
      have hp6 := s56 _ _ hp5
      have e6 := s56 _ _ e2
      have pr6 := Paired.mapP pr5 fun x y (z : LnAt H5 x y) => z.keep fun c us ec => s56 c _ ec
      have s6 := s5.trans s56
      refine ⟨T2, _, rfl, SqT.of upd_same, rfl, _, _, rfl, _, _, rfl, rfl, ?_⟩
      generalize upd H5 T2 (.tup [kV (nK ln.1), .ref tt]) = H6 at hr6 hp6 e6 pr6 s6
      refine ⟨_, rfl, .inl ⟨rfl, _, SqL.of hp6⟩, _, rfl, _, rfl, tt, _, _, nV ln.2.1, rfl, rfl, SqT.of e6, rfl, _, rfl, tt, _, _, nV (Ut14.bit ln.2.2), rfl, rfl, SqT.of e6, rfl, by show 3 ≤ sizeLine; decide, fun b hb => ?_⟩
      have s67 := upd_new (o := .lst [kV (nK ln.1), nV ln.2.1, nV (Ut14.bit ln.2.2)]) hb
      refine ⟨p, b, _, _, rfl, rfl, s67 _ _ hp6, upd_same, ?_, ?_⟩
      · have := ext_len (f := nowOf) (n := 3) (m := (Ut14.build g t).length) (i := i) (l := Ut14.build g t) (fun _ => rfl)
        show _ + 3 ≤ _
        omega
      · have hr7 := s67 _ _ hr6
        have hp7 := s67 _ _ hp6
        refine ⟨some (kV (nK ln.1)), some (.ref tt), rfl, fun c o ec => ?_, ?_, ?_, Paired.mapP pr6 fun x y z => z.keep fun c us ec => ?_⟩
        · rw [upd_ne (ne_of_none ec np)]
          exact s67 _ _ (s6 c o ec)
        · rw [upd_ne nrp]
          exact hr7
        · rw [upd_same, ← ext_more hl]
          rfl
        · rw [upd_ne (ne_of (s67 _ _ ec) hp7 (fun z => nomatch z))]
          exact s67 _ _ ec
    · rintro σ H5 ⟨v4, v5, rfl, s5, hr5, hp5, pr5⟩
      rw [el, List.take_length] at hp5
      refine ⟨hr5, _, rfl, q.tell st hA (fun c o ec => ?_) np ?_⟩
      · rw [upd_ne (ne_of_none ec nrd)]
        exact s5 c o ec
      · rw [upd_ne nrp.symm, ints_V]
        exact hp5
end
end Tof

namespace Tof
open PySem PySem.Spec PyProof.Rows L2
theorem line_self {ls : List Line} (h : ls.Pairwise fun a b => a.1 < b.1) {l : Line} (m : l ∈ ls) : lineAt ls l.1 = some l := by
  unfold lineAt
  induction ls with
  | nil => cases m
  | cons a ls ih =>
    obtain ⟨h1, h2⟩ := List.pairwise_cons.mp h
    rw [List.find?_cons]
    rcases List.mem_cons.mp m with z | z
    · rw [z, beq_self_eq_true]
    · have := h1 l z
      rw [show (a.1 == l.1) = false from beq_false_of_ne (by omega)]
      exact ih h2 z
theorem build_srt {g : Ut14.House} (h : Srt g.source) (t : Nat) : (Ut14.build g t).Pairwise fun a b => a.1 < b.1 := by
  unfold Ut14.build
  rw [List.pairwise_map]
  exact h.imp fun z => by rw [line_key, line_key]; exact z
def undone (l : Line) : Bool := decide (Ut14.bit l.2.2 = 0)
theorem todo_keys (g : Ut14.House) (t : Nat) : ((Ut14.build g t).filter undone).map (fun l => l.1) = (Ut14.todoOf g t).map fun e => e.1 := by
  unfold Ut14.build Ut14.todoOf
  rw [List.filter_map, List.map_map]
  have e1 : (undone ∘ Ut14.lineOf g t) = fun e => (Ut14.workOf g.work t e.1 e.2).isNone := by
    funext e
    show decide (Ut14.bit (Ut14.lineOf g t e).2.2 = 0) = _
    rw [Bool.eq_iff_iff, decide_eq_true_iff]
    exact line_done
  rw [e1]
  congr 1
  funext e
  exact line_key g t e
theorem todo_mem {g : Ut14.House} {t i : Nat} {e : Ut14.Entry} (hs : Srt g.source) (h : (Ut14.todoOf g t)[i]? = some e) : Ut14.textOf g e.1 = some e.2 := by
  have m : e ∈ g.source := (List.mem_filter.mp (List.mem_of_getElem? h)).1
  unfold Ut14.textOf
  rw [(find_iff hs.nodup e.1 e).mpr ⟨m, rfl⟩]
  rfl
section
variable {P : Program} {w : World} {K : PySem.W.Frag} {mg : Str → Option Value} {base : Heap} {C CP : Addr}
/-! ### list_todo -/
def spTodo (C CP : Addr) : Sp := fun vs H Q _ => ∃ (L : Lay) (ro : Addr → Rl) (g : Ut14.House) (N t : Nat), vs = [.ref L.a, nV t] ∧ At C CP L ro H g ∧ Ok N g ∧ Ans C CP L ro H g (.todo t) Q
abbrev nTodo : List Str := ["self", "tongue", "shown", "untranslated", "answer", "key"]
theorem scTodo : FnScope nTodo ["self", "tongue"] (defScope sTodo) := ⟨rfl, rfl, rfl, by decide +kernel, rfl, by decide +kernel, by decide +kernel⟩
theorem ok_todo {f : Addr} {fd : FuncData} (F : Fun K "list_todo" "Records.list_todo" sTodo f fd) (T : Txt K mg C CP) (MS : MCal P w K mg base C "shown_now" 2 ["self", "tongue"] (spShown C CP)) (M3 : MCal P w K mg base C "offered_for" 2 ["self", "tongue", "key"] (spOffered C CP)) :
    FnOk P w K mg base CX0 3 f fd ["self", "tongue"] (spTodo C CP) := by
  obtain ⟨f2, fd2, m2, F2, b2⟩ := MS
  obtain ⟨f3, fd3, m3, F3, b3⟩ := M3
  refine F.ok scTodo (fun vs H Q E h => ?_) (fun cdv A outer s H vs Q E hr h => ⟨_, pss_cons
    (ps_if (pt_cmpR op_gt (pv 1) (pe_gi T.LAST_TONGUE) (nomark _)) (pss_one (ps_ret (pe_lst (pa_cons (pe_gi T.NOT_AS_TOLD) pa_nil)))) pss_nil)
    (pss_cons (ps_set (i := 2) scTodo.nd rfl (Or.inr rfl) (pe_meth (pv 0) T.cl m2 F2 hr b2 .nil pass0 (pa_cons (pv 1) pa_nil)))
    (pss_cons (ps_lock (ps_setLc (i := 3) (own := [("key", 5)]) (g := gName 5) (tt := tTest (tOp rEq (tOp (rIxT K) (tDGet (tVar 2) (tVar 5)) (tC (.int 1))) (tC (.int 0)))) (te := tVar 5) rfl scTodo.nd rfl rfl (sw_true rfl rfl rfl (by decide +kernel)) (pi_keys (pv 2)) (blkOk_by (own := [("key", 5)]) (N := nTodo) (sc := defScope sTodo) (by decide +kernel))
      (fun _ _ _ _ _ => pg_name (i := 5) scTodo.nd rfl (Or.inl rfl)) (fun _ _ _ _ _ => pts_one (pt_cmpR op_eq (pe_ix ix_tup (pe_dget (hu_of hr) (pv 2) (pv 5) (fun _ _ => rfl)) pe_int (fun _ _ => rfl)) pe_int (nomark _))) (fun _ _ _ _ _ => pv 5)))
    (pss_cons (ps_set (i := 4) scTodo.nd rfl (Or.inl rfl) (pe_lst (pa_cons (pe_callB call_len_seq (by rfl) T.len PySem.boot_len (pa_cons (pv 3) pa_nil)) pa_nil)))
    (pss_cons (ps_for PassesOwn.never rfl (pi_list (pv 3)) (pg_name (i := 5) scTodo.nd rfl (Or.inl rfl))
      (pss_one (ps_expr (pe_bm PySem.F.plainAttrs_list PySem.F.slot_list_extend PySem.F.type_list_extend mt_extend (pv 4) (pa_cons (pe_lst (pa_cons (pv 5) (pa_cons (pe_dget (hu_of hr) (pe_fld (pv 0) rfl) (pv 5) (fun _ _ => rfl)) (pa_cons (pe_meth (pv 0) T.cl m3 F3 hr b3 .nil pass0 (pa_cons (pv 1) (pa_cons (pv 5) pa_nil))) pa_nil)))) pa_nil)))))
    (pss_one (ps_ret (pv 4))))))), ?_⟩)
  · obtain ⟨L, ro, g, N, t, rfl, _⟩ := h
    rfl
  · obtain ⟨L, ro, g, N, t, rfl, hA, hO, q⟩ := h
    have zl : sizeLine = 16777216 := sizeLine_eq
    obtain ⟨src, hs, hperm⟩ := hA.hS
    have hv : ∀ k, valV (src.map eKV) (nK k) = (Ut14.textOf g k).map nV := val_src hperm hO.srt
    have one : ∀ (z : Int), Ut14.step g (.todo t) = (g, [z]) → 1 ≤ sizeLine ∧ ∀ p, H p = none → Q (.ref p) (upd H p (.lst [.int z])) := fun z e => ⟨by decide, fun p hp => q.no e hA (Same.refl H) p hp⟩
    refine ⟨_, rfl, _, _, rfl, rfl, _, rfl, ?_⟩
    by_cases c1 : 3 < t
    · exact if_true_of (decide_eq_true (by omega)) (one _ (step_todo0 c1))
    refine if_false_of (decide_eq_false (by omega)) ?_
    have st := step_todo1 (g := g) (t := t) c1
    refine ⟨_, rfl, L.a, L.dx, _, rfl, hA.hA, rF_none (by decide +kernel), _, rfl, L, ro, g, N, t, rfl, hA, hO, fun H1 rd es s1 nrd hrd pr => ?_⟩
    have el : es.length = (Ut14.build g t).length := (paired_len pr).symm
    have bl : (Ut14.build g t).length ≤ 10 := by
      unfold Ut14.build
      rw [List.length_map]
      exact hO.slen
    have tl : (Ut14.todoOf g t).length ≤ 10 := Nat.le_trans (List.length_filter_le ..) hO.slen
    -- untranslated, under a lock
    refine ⟨rd, _, hrd, trivial, fun od => ⟨_, rfl, rd, od, rfl, .inl ⟨es, upd_same, fun D hD => ?_⟩⟩⟩
    have hD1 : H1 D = none := upd_free hD
    have nDr : rd ≠ D := ne_of_none hrd hD1
    refine lc_it (walk_keys (d := rd) (o := od) (kvs := es)) (vs := [5]) (fun i H' => H' = upd (upd H1 rd (.frz od (.dK es))) D (.lst ((((Ut14.build g t).take i).filter undone).map fun l => nV l.1))) rfl (fun i H' _ e => by rw [e, upd_ne nDr]; exact upd_same) ?_ ?_
    · rintro i y H5 H6 hi rfl ⟨rfl, kk, v, hk, rfl⟩
      obtain ⟨ln, hl, tt, e1, e2⟩ := paired_at pr hk
      have e1 := (Prod.mk.inj e1).1
      subst e1
      have fm := filter_more (p := undone) hl
      have ls := line_self (build_srt hO.srt t) (List.mem_of_getElem? hl)
      rcases val_line ln.1 pr with ⟨z, _⟩ | ⟨l2, t2, z1, z2, z3⟩
      · rw [ls] at z
        cases z
      rw [ls] at z1
      have z1 := Option.some.inj z1
      subst z1
      show wipe _ _ = wipe _ _ ∧ _
      refine ⟨rfl, ?_⟩
      have t5 : upd (upd H1 rd (.frz od (.dK es))) D (.lst ((((Ut14.build g t).take i).filter undone).map fun l => nV l.1)) t2 = some (.tup [nV ln.2.1, nV (Ut14.bit ln.2.2)]) := by
        rw [upd_ne (ne_of_none z3 hD1), upd_ne (ne_of z3 hrd (fun z => nomatch z))]
        exact z3
      refine ⟨_, rfl, _, rfl, rd, .ref t2, rfl, .inl ⟨es, nK ln.1, .inr ⟨od, by rw [upd_ne nDr]; exact upd_same⟩, rfl, z2.symm⟩, t2, _, _, nV (Ut14.bit ln.2.2), rfl, rfl, SqT.of t5, rfl, rfl, _, rfl, ?_⟩
      have ez := vint_eq (Ut14.bit ln.2.2) 0
      by_cases c2 : Ut14.bit ln.2.2 = 0
      · refine if_true_of (ez.trans (decide_eq_true c2)) ?_
        refine ⟨_, rfl, _, upd_same, small1000 ?_, ?_⟩
        · rw [List.length_map]
          have := List.length_filter_le undone ((Ut14.build g t).take i)
          have := List.length_take_le' i (Ut14.build g t)
          omega
        · rw [upd_upd, fm, if_pos (show undone ln = true from decide_eq_true c2), List.map_append]
          rfl
      · refine if_false_of (ez.trans (decide_eq_false c2)) ?_
        rw [fm, if_neg (by unfold undone; rw [decide_eq_false c2]; exact Bool.false_ne_true), List.append_nil]
    · rintro H5 e5
      rw [el, List.take_length] at e5
      subst e5
      refine ⟨by rw [upd_ne nDr]; exact upd_same, ?_⟩
      rw [unlock_new hrd nDr]
      have ek : ((Ut14.build g t).filter undone).map (fun l => nV l.1) = (Ut14.todoOf g t).map fun e => nV e.1 := by
        have z := congrArg (List.map nV) (todo_keys g t)
        rw [List.map_map, List.map_map] at z
        exact z
      rw [ek]
      have s2 := s1.trans (upd_new (o := .lst ((Ut14.todoOf g t).map fun e => nV e.1)) hD1)
      have hD2 : upd H1 D (.lst ((Ut14.todoOf g t).map fun e => nV e.1)) D = some (.lst ((Ut14.todoOf g t).map fun e => nV e.1)) := upd_same
      generalize upd H1 D (.lst ((Ut14.todoOf g t).map fun e => nV e.1)) = H2 at s2 hD2
      have hD0 : H D = none := s1.free hD1
      refine ⟨_, rfl, D, _, rfl, .inl (SqL.of hD2), by show 1 ≤ sizeLine; decide, fun p hp => ?_⟩
      have np : H p = none := s2.free hp
      have nDp : D ≠ p := ne_of_none hD2 hp
      refine ⟨_, rfl, D, rfl, ⟨_, SqL.of (by rw [upd_ne nDp]; exact hD2)⟩, for_list (K := K) (a := D) (xs := (Ut14.todoOf g t).map fun e => nV e.1) (fun i σ H' => ∃ v5 : Option V, σ = [some (.ref L.a), some (nV t), some (.ref rd), some (.ref D), some (.ref p), v5] ∧ Same H H' ∧ H' D = some (.lst ((Ut14.todoOf g t).map fun e => nV e.1)) ∧
          H' p = some (.lst (((Ut14.todoOf g t).length :: ((Ut14.todoOf g t).take i).flatMap fun e => [e.1, e.2, Ut14.offered g t e.1 e.2]).map nV))) ?_ (fun i σ H' _ ⟨_, _, _, z, _⟩ => SqL.of z) ?_ ?_⟩
      · refine ⟨none, rfl, s2.trans (upd_new hp), by rw [upd_ne nDp]; exact hD2, ?_⟩
        rw [upd_same, List.length_map]
        rfl
      · rintro i y σ H5 hi ⟨v5, rfl, s5, hD5, hp5⟩
        rw [List.getElem?_map] at hi
        cases he : (Ut14.todoOf g t)[i]? with
        | none =>
          rw [he] at hi
          cases hi
        | some e =>
          rw [he] at hi
          have hi := Option.some.inj hi
          subst hi
          have hA5 := hA.same s5
          have tx := todo_mem hO.srt he
          refine ⟨_, rfl, .inl ⟨rfl, _, SqL.of hp5⟩, _, rfl, _, rfl, L.a, C, L.dx, _, _, rfl, hA5.hA, T.cl, T.nS, rF_source, _, rfl, L.dS, nV e.2, rfl, (by have z := DGet.k (k := nK e.1) (s5 _ _ hs); rw [hv, tx] at z; exact z), ?_⟩
          refine ⟨_, rfl, L.a, L.dx, _, rfl, hA5.hA, rF_none (by decide +kernel), _, rfl, _, rfl, L, ro, g, N, t, e.1, e.2, rfl, hA5, hO, tx, fun H6 s6 => ⟨by show 3 ≤ sizeLine; decide, fun b hb => ?_⟩⟩
          have s67 := upd_new (o := .lst [nV e.1, nV e.2, nV (Ut14.offered g t e.1 e.2)]) hb
          have hp7 := s67 _ _ (s6 _ _ hp5)
          have hD7 := s67 _ _ (s6 _ _ hD5)
          refine ⟨p, b, _, _, rfl, rfl, hp7, upd_same, ?_, ?_⟩
          · have := ext_len (f := fun e : Ut14.Entry => [e.1, e.2, Ut14.offered g t e.1 e.2]) (n := 3) (m := (Ut14.todoOf g t).length) (i := i) (l := Ut14.todoOf g t) (fun _ => rfl)
            show _ + 3 ≤ _
            omega
          · refine ⟨some (nV e.1), rfl, fun c o ec => ?_, ?_, ?_⟩
            · rw [upd_ne (ne_of_none ec np)]
              exact s67 _ _ (s6 _ _ (s5 c o ec))
            · rw [upd_ne nDp]
              exact hD7
            · rw [upd_same, ← ext_more he]
              rfl
      · rintro σ H5 ⟨v5, rfl, s5, hD5, hp5⟩
        rw [List.length_map, List.take_length] at hp5
        exact ⟨_, rfl, q.tell st hA s5 np (by rw [ints_V]; exact hp5)⟩
end
end Tof

namespace Tof
open PySem PySem.Spec PyProof.Rows L2
theorem tup_under {H : Hp} {d D q : Addr} {o : Obj} {u : HO} {ys xs : List V} (h : upd (upd H d (.frz o u)) D (.lst ys) q = some (.tup xs)) : H q = some (.tup xs) := by
  unfold upd at h
  split at h
  · cases h
  · split at h
    · cases h
    · exact h
theorem opn_at {l : List Ut14.Open} {i : Nat} {k : List L2.Key} {v : V} (h : (l.map oKV)[i]? = some (k, v)) : ∃ w, l[i]? = some w ∧ k = pl w.tongue w.key w.text ∧ v = nV w.theirs := by
  rw [List.getElem?_map] at h
  cases e : l[i]? with
  | none =>
    rw [e] at h
    cases h
  | some w =>
    rw [e] at h
    have h := Option.some.inj h
    exact ⟨w, rfl, (congrArg Prod.fst h).symm, (congrArg Prod.snd h).symm⟩
section
variable {P : Program} {w : World} {K : PySem.W.Frag} {mg : Str → Option Value} {base : Heap} {C CP : Addr}
/-! ### list_unsettled -/
def spUnset (C CP : Addr) : Sp := fun vs H Q _ => ∃ (L : Lay) (ro : Addr → Rl) (g : Ut14.House) (N t : Nat), vs = [.ref L.a, nV t] ∧ At C CP L ro H g ∧ Ok N g ∧ OkO g ∧ N ≤ 900 ∧ Ans C CP L ro H g (.open_ t) Q
abbrev nUnset : List Str := ["self", "tongue", "places", "answer", "place"]
theorem scUnset : FnScope nUnset ["self", "tongue"] (defScope sUnset) := ⟨rfl, rfl, rfl, by decide +kernel, rfl, by decide +kernel, by decide +kernel⟩
theorem ok_unset {f : Addr} {fd : FuncData} (F : Fun K "list_unsettled" "Records.list_unsettled" sUnset f fd) (T : Txt K mg C CP) (M2 : MCal P w K mg base C "work_at" 1 ["self", "place"] (spWorkAt C CP)) :
    FnOk P w K mg base CX0 2 f fd ["self", "tongue"] (spUnset C CP) := by
  obtain ⟨f2, fd2, m2, F2, b2⟩ := M2
  refine F.ok scUnset (fun vs H Q E h => ?_) (fun cdv A outer s H vs Q E hr h => ⟨_, pss_cons
    (ps_if (pt_cmpR op_gt (pv 1) (pe_gi T.LAST_TONGUE) (nomark _)) (pss_one (ps_ret (pe_lst (pa_cons (pe_gi T.NOT_AS_TOLD) pa_nil)))) pss_nil)
    (pss_cons (ps_lock (ps_setLc (i := 2) (own := [("place", 4)]) (g := gName 4) (tt := tTest (tOp rEq (tOp (rIxT K) (tVar 4) (tC (.int 0))) (tVar 1))) (te := tVar 4) rfl scUnset.nd rfl rfl (sw_true rfl rfl rfl (by decide +kernel)) (pi_keys (pe_fld (pv 0) rfl)) (blkOk_by (own := [("place", 4)]) (N := nUnset) (sc := defScope sUnset) (by decide +kernel))
      (fun _ _ _ _ _ => pg_name (i := 4) scUnset.nd rfl (Or.inl rfl)) (fun _ _ _ _ _ => pts_one (pt_cmpR op_eq (pe_ix ix_tup (pv 4) pe_int (fun _ _ => rfl)) (pv 1) (nomark _))) (fun _ _ _ _ _ => pv 4)))
    (pss_cons (ps_set (i := 3) scUnset.nd rfl (Or.inl rfl) (pe_lst (pa_cons (pe_callB call_len_seq (by rfl) T.len PySem.boot_len (pa_cons (pv 2) pa_nil)) pa_nil)))
    (pss_cons (ps_for PassesOwn.never rfl (pi_list (pv 2)) (pg_name (i := 4) scUnset.nd rfl (Or.inl rfl))
      (pss_one (ps_expr (pe_bm PySem.F.plainAttrs_list PySem.F.slot_list_extend PySem.F.type_list_extend mt_extend (pv 3) (pa_cons (pe_lst (pa_cons (pe_ix ix_tup (pv 4) pe_int (fun _ _ => rfl)) (pa_cons (pe_ix ix_tup (pv 4) pe_int (fun _ _ => rfl)) (pa_cons (pe_dget (hu_of hr) (pe_fld (pv 0) rfl) (pv 4) (fun _ _ => rfl)) (pa_cons (pe_meth (pv 0) T.cl m2 F2 hr b2 .nil pass0 (pa_cons (pv 4) pa_nil)) pa_nil))))) pa_nil)))))
    (pss_one (ps_ret (pv 3)))))), ?_⟩)
  · obtain ⟨L, ro, g, N, t, rfl, _⟩ := h
    rfl
  · obtain ⟨L, ro, g, N, t, rfl, hA, hO, hOO, n9, q⟩ := h
    have zl : sizeLine = 16777216 := sizeLine_eq
    have one : ∀ (z : Int), Ut14.step g (.open_ t) = (g, [z]) → 1 ≤ sizeLine ∧ ∀ p, H p = none → Q (.ref p) (upd H p (.lst [.int z])) := fun z e => ⟨by decide, fun p hp => q.no e hA (Same.refl H) p hp⟩
    refine ⟨_, rfl, _, _, rfl, rfl, _, rfl, ?_⟩
    by_cases c1 : 3 < t
    · exact if_true_of (decide_eq_true (by omega)) (one _ (step_open0 c1))
    refine if_false_of (decide_eq_false (by omega)) ?_
    have st := step_open1 (g := g) (t := t) c1
    have ol := hO.olen
    have tl : (openOf g t).length ≤ 900 := Nat.le_trans (List.length_filter_le ..) (by omega)
    have nau : L.a ≠ L.dU := fun z => by
      have := hA.rA
      rw [z, hA.rU] at this
      cases this
    refine ⟨L.dU, _, hA.hU, trivial, fun od => ⟨_, rfl, L.a, C, L.dx, _, _, rfl, by rw [upd_ne nau]; exact hA.hA, T.cl, T.nU, rF_unsettled, L.dU, od, rfl, .inr ⟨_, upd_same, fun D hD => ?_⟩⟩⟩
    have hD0 : H D = none := upd_free hD
    have nDU : L.dU ≠ D := ne_of_none hA.hU hD0
    refine lc_it (walk_keysT (d := L.dU) (o := od) (kvs := g.open_.map oKV)) (vs := [4]) (fun i H' => ∃ qs : List Addr, H' = upd (upd H L.dU (.frz od (.dT (g.open_.map oKV)))) D (.lst (qs.map V.ref)) ∧ Paired (fun (o : Ut14.Open) (q : Addr) => TupAt H q o.tongue o.key o.text) ((g.open_.take i).filter fun o => o.tongue == t) qs)
      ⟨[], rfl, .nil⟩ (fun i H' _ ⟨_, e, _⟩ => by rw [e, upd_ne nDU]; exact upd_same) ?_ ?_
    · rintro i y H5 H6 hi ⟨qs, rfl, pr⟩ ⟨rfl, kk, v, qa, hk, rfl, hq⟩
      obtain ⟨op, ho, rfl, rfl⟩ := opn_at hk
      have fm := filter_more (p := fun o => o.tongue == t) ho
      show wipe _ _ = wipe _ _ ∧ _
      refine ⟨rfl, ?_⟩
      refine ⟨_, rfl, qa, _, _, nV op.tongue, rfl, rfl, SqT.of hq, rfl, _, rfl, rfl, _, rfl, ?_⟩
      rw [vint_eq]
      by_cases c2 : op.tongue = t
      · refine if_true_of (decide_eq_true c2) ?_
        refine ⟨_, rfl, _, upd_same, small1000 ?_, qs ++ [qa], ?_, ?_⟩
        · rw [List.length_map, ← paired_len pr]
          have := List.length_filter_le (fun o : Ut14.Open => o.tongue == t) (g.open_.take i)
          have := List.length_take_le' i g.open_
          omega
        · rw [upd_upd, List.map_append]
          rfl
        · rw [fm, if_pos (by rw [c2]; exact beq_self_eq_true t)]
          exact paired_snoc pr (tup_under hq)
      · refine if_false_of (decide_eq_false c2) ⟨qs, rfl, ?_⟩
        rw [fm, if_neg (by rw [beq_false_of_ne c2]; exact Bool.false_ne_true), List.append_nil]
        exact pr
    · rintro H5 ⟨qs, rfl, pr⟩
      rw [List.length_map, List.take_length] at pr
      have pr : Paired (fun (o : Ut14.Open) (q : Addr) => TupAt H q o.tongue o.key o.text) (openOf g t) qs := pr
      refine ⟨by rw [upd_ne nDU]; exact upd_same, ?_⟩
      rw [unlock_new hA.hU nDU]
      have s2 := upd_new (o := .lst (qs.map V.ref)) hD0
      have hD2 : upd H D (.lst (qs.map V.ref)) D = some (.lst (qs.map V.ref)) := upd_same
      generalize upd H D (.lst (qs.map V.ref)) = H2 at s2 hD2
      have ql : qs.length = (openOf g t).length := (paired_len pr).symm
      refine ⟨_, rfl, D, _, rfl, .inl (SqL.of hD2), by show 1 ≤ sizeLine; decide, fun p hp => ?_⟩
      have np : H p = none := s2.free hp
      have nDp : D ≠ p := ne_of_none hD2 hp
      refine ⟨_, rfl, D, rfl, ⟨_, SqL.of (by rw [upd_ne nDp]; exact hD2)⟩, for_list (K := K) (a := D) (xs := qs.map V.ref) (fun i σ H' => ∃ v4 : Option V, σ = [some (.ref L.a), some (nV t), some (.ref D), some (.ref p), v4] ∧ Same H H' ∧ H' D = some (.lst (qs.map V.ref)) ∧
          H' p = some (.lst (((openOf g t).length :: ((openOf g t).take i).flatMap fun o => [o.key, o.text, o.theirs, Ut14.says g t o.key o.text]).map nV))) ?_ (fun i σ H' _ ⟨_, _, _, z, _⟩ => SqL.of z) ?_ ?_⟩
      · refine ⟨none, rfl, s2.trans (upd_new hp), by rw [upd_ne nDp]; exact hD2, ?_⟩
        rw [upd_same, List.length_map, ql]
        rfl
      · rintro i y σ H5 hi ⟨v4, rfl, s5, hD5, hp5⟩
        rw [List.getElem?_map] at hi
        cases he : qs[i]? with
        | none =>
          rw [he] at hi
          cases hi
        | some qa =>
          rw [he] at hi
          have hi := Option.some.inj hi
          subst hi
          obtain ⟨op, ho, ht⟩ := paired_at pr he
          have hA5 := hA.same s5
          have t5 : TupAt H5 qa op.tongue op.key op.text := s5 _ _ ht
          obtain ⟨mo, et⟩ := List.mem_filter.mp (List.mem_of_getElem? ho)
          have et := eq_of_beq et
          have vo : valV (g.open_.map oKV) (pl op.tongue op.key op.text) = some (nV op.theirs) := by
            rw [val_open, open_at hOO mo]
            rfl
          refine ⟨_, rfl, .inl ⟨rfl, _, SqL.of hp5⟩, _, rfl, qa, _, _, nV op.key, rfl, rfl, SqT.of t5, rfl, _, rfl, qa, _, _, nV op.text, rfl, rfl, SqT.of t5, rfl, ?_⟩
          refine ⟨_, rfl, L.a, C, L.dx, _, _, rfl, hA5.hA, T.cl, T.nU, rF_unsettled, _, rfl, L.dU, nV op.theirs, rfl, (by have z := DGet.t hA5.hU t5; rw [vo] at z; exact z), ?_⟩
          refine ⟨_, rfl, L.a, L.dx, _, rfl, hA5.hA, rF_none (by decide +kernel), _, rfl, L, ro, g, qa, op.tongue, op.key, op.text, rfl, hA5, t5, by show 4 ≤ sizeLine; decide, fun b hb => ?_⟩
          rw [et]
          have s67 := upd_new (o := .lst [nV op.key, nV op.text, nV op.theirs, nV (Ut14.says g t op.key op.text)]) hb
          have hp7 := s67 _ _ hp5
          have hD7 := s67 _ _ hD5
          refine ⟨p, b, _, _, rfl, rfl, hp7, upd_same, ?_, ?_⟩
          · have := ext_len (f := fun o : Ut14.Open => [o.key, o.text, o.theirs, Ut14.says g t o.key o.text]) (n := 4) (m := (openOf g t).length) (i := i) (l := openOf g t) (fun _ => rfl)
            show _ + 4 ≤ _
            omega
          · refine ⟨some (.ref qa), rfl, fun c o ec => ?_, ?_, ?_⟩
            · rw [upd_ne (ne_of_none ec np)]
              exact s67 _ _ (s5 c o ec)
            · rw [upd_ne nDp]
              exact hD7
            · rw [upd_same, ← ext_more ho]
              rfl
      · rintro σ H5 ⟨v4, rfl, s5, hD5, hp5⟩
        rw [List.length_map, ql, List.take_length] at hp5
        exact ⟨_, rfl, q.tell st hA s5 np (by rw [ints_V]; exact hp5)⟩
end
end Tof

namespace Tof
open PySem PySem.Spec PyProof.Rows L2
theorem rd_under {H : Hp} {d D e : Addr} {u v x : HO} {o : Obj} (hd : H d = some u) (he : H e = some v) (hD : H D = none) : Rd (upd (upd H d (.frz o u)) D x) e v := by
  have n : e ≠ D := ne_of_none he hD
  by_cases c : e = d
  · subst c
    rw [hd] at he
    have he := Option.some.inj he
    subst he
    exact .inr ⟨o, by rw [upd_ne n, upd_same]⟩
  · exact .inl (by rw [upd_ne n, upd_ne c]; exact he)
theorem eqv_line {l1 l2 : Line} (h : l1.1 = l2.1) : PyData.eqv (.tuple [.int (l1.2.1 : Nat), .int (Ut14.bit l1.2.2 : Nat)]) (.tuple [.int (l2.2.1 : Nat), .int (Ut14.bit l2.2.2 : Nat)]) = (some l1 == some l2) := by
  obtain ⟨k, a, x⟩ := l1
  obtain ⟨k2, b, y⟩ := l2
  have h : k = k2 := h
  subst h
  rw [Bool.eq_iff_iff, beq_iff_eq, Option.some.injEq, Prod.mk.injEq, Prod.mk.injEq]
  simp only [PyData.eqv, PyData.eqvAll, Bool.and_true]
  rw [Bool.and_eq_true, beq_iff_eq, beq_iff_eq]
  have hb : (((Ut14.bit x : Nat) : Int) = ((Ut14.bit y : Nat) : Int)) ↔ x = y := by cases x <;> cases y <;> decide
  rw [hb]
  constructor
  · rintro ⟨e1, e2⟩
    exact ⟨trivial, by omega, e2⟩
  · rintro ⟨_, e1, e2⟩
    exact ⟨by omega, e2⟩
def pA (a b : List Line) (l : Line) : Bool := !(lineAt a l.1 == lineAt b l.1)
def pB (a : List Line) (l : Line) : Bool := !(lineAt a l.1).isSome
theorem chA_eq (a b : List Line) : chA a b = (a.filter (pA a b)).map fun l => l.1 := by
  unfold chA
  rw [List.filter_map]
  rfl
theorem chB_eq (a b : List Line) : chB a b = (b.filter (pB a)).map fun l => l.1 := by
  unfold chB
  rw [List.filter_map]
  rfl
section
variable {P : Program} {w : World} {K : PySem.W.Frag} {mg : Str → Option Value} {base : Heap} {C CP : Addr}
/-! ### list_changed -/
def spChanged (C CP : Addr) : Sp := fun vs H Q _ => ∃ (L : Lay) (ro : Addr → Rl) (g : Ut14.House) (N r s : Nat), vs = [.ref L.a, nV r, nV s] ∧ At C CP L ro H g ∧ Ok N g ∧ Ans C CP L ro H g (.changed r s) Q
abbrev nChanged : List Str := ["self", "number", "another", "first", "second", "changed", "key"]
theorem scChanged : FnScope nChanged ["self", "number", "another"] (defScope sChanged) := ⟨rfl, rfl, rfl, by decide +kernel, rfl, by decide +kernel, by decide +kernel⟩
theorem ok_changed {f : Addr} {fd : FuncData} (F : Fun K "list_changed" "Records.list_changed" sChanged f fd) (T : Txt K mg C CP) :
    FnOk P w K mg base CX0 1 f fd ["self", "number", "another"] (spChanged C CP) := by
  refine F.ok scChanged (fun vs H Q E h => ?_) (fun cdv A outer s H vs Q E hr h => ⟨_, pss_cons
    (ps_if (PW.pt (pw_or (pt_cmpR op_ge (pv 1) (pe_callB call_len_seq (by rfl) T.len PySem.boot_len (pa_cons (pe_fld (pv 0) rfl) pa_nil)) (nomark _)) (pw_or1 (pt_cmpR op_ge (pv 2) (pe_callB call_len_seq (by rfl) T.len PySem.boot_len (pa_cons (pe_fld (pv 0) rfl) pa_nil)) (nomark _))))) (pss_one (ps_ret (pe_lst (pa_cons (pe_gi T.MISSING) pa_nil)))) pss_nil)
    (pss_cons (ps_set (i := 3) scChanged.nd rfl (Or.inr rfl) (pe_ix ix_list (pe_fld (pv 0) rfl) (pv 1) (fun _ _ => rfl)))
    (pss_cons (ps_set (i := 4) scChanged.nd rfl (Or.inr rfl) (pe_ix ix_list (pe_fld (pv 0) rfl) (pv 2) (fun _ _ => rfl)))
    (pss_cons (ps_lock (ps_setLc (i := 5) (own := [("key", 6)]) (g := gName 6) (tt := tOr (tTest (tDNotIn (tVar 6) (tVar 4))) (tTest (tOp (rNeD K) (tDGet (tVar 3) (tVar 6)) (tDGet (tVar 4) (tVar 6))))) (te := tVar 6) rfl scChanged.nd rfl rfl (sw_true rfl rfl rfl (by decide +kernel)) (pi_keys (pv 3)) (blkOk_by (own := [("key", 6)]) (N := nChanged) (sc := defScope sChanged) (by decide +kernel))
      (fun _ _ _ _ _ => pg_name (i := 6) scChanged.nd rfl (Or.inl rfl)) (fun _ _ _ _ _ => pts_one (PW.pt (pw_or (pt_cmp (pc_dnotin (hu_of hr) (pv 6) (pv 4))) (pw_or1 (pt_cmpR (op_neD hr.units) (pe_dget (hu_of hr) (pv 3) (pv 6) (fun _ _ => rfl)) (pe_dget (hu_of hr) (pv 4) (pv 6) (fun _ _ => rfl)) (nomark _)))))) (fun _ _ _ _ _ => pv 6)))
    (pss_cons (ps_expr (pe_bm PySem.F.plainAttrs_list PySem.F.slot_list_extend PySem.F.type_list_extend mt_extend (pv 5) (pa_cons (pe_lock (pe_lc (own := [("key", 6)]) (g := gName 6) (tt := tTest (tDNotIn (tVar 6) (tVar 3))) (te := tVar 6) rfl scChanged.nd (pi_keys (pv 4)) (blkOk_by (own := [("key", 6)]) (N := nChanged) (sc := defScope sChanged) (by decide +kernel))
      (fun _ _ _ _ _ => pg_name (i := 6) scChanged.nd rfl (Or.inl rfl)) (fun _ _ _ _ _ => pts_one (pt_cmp (pc_dnotin (hu_of hr) (pv 6) (pv 3)))) (fun _ _ _ _ _ => pv 6))) pa_nil)))
    (pss_one (ps_ret (pe_op op_cat (pe_lst (pa_cons (pe_callB call_len_seq (by rfl) T.len PySem.boot_len (pa_cons (pv 5) pa_nil)) pa_nil)) (pv 5)))))))), ?_⟩)
  · obtain ⟨L, ro, g, N, r, s, rfl, _⟩ := h
    rfl
  · obtain ⟨L, ro, g, N, r, s, rfl, hA, hO, q⟩ := h
    have zl : sizeLine = 16777216 := sizeLine_eq
    obtain ⟨rds, hp, hpl, hrl⟩ := hA.hR
    have gl : (rds.map V.ref).length = g.released.length := by rw [List.length_map, hpl]
    have re1 := rel_at hO.rnum r
    have re2 := rel_at hO.rnum s
    have one : ∀ (z : Int), Ut14.step g (.changed r s) = (g, [z]) → 1 ≤ sizeLine ∧ ∀ p, H p = none → Q (.ref p) (upd H p (.lst [.int z])) := fun z e => ⟨by decide, fun p hp => q.no e hA (Same.refl H) p hp⟩
    refine ⟨_, rfl, _, rfl, L.a, C, L.dx, _, _, rfl, hA.hA, T.cl, T.nR, rF_releases, L.lR, _, rfl, .inl (SqL.of hp), _, _, rfl, rfl, _, rfl, ?_⟩
    rw [gl]
    cases c3 : g.released[r]? with
    | none =>
      have := List.getElem?_eq_none_iff.mp c3
      exact if_true_of (decide_eq_true (by omega)) (iteT (one _ (step_ch0 (re1.trans c3))))
    | some x =>
      have hlt := (List.getElem?_eq_some_iff.mp c3).1
      refine if_false_of (decide_eq_false (by omega)) ?_
      refine ⟨_, rfl, _, rfl, L.a, C, L.dx, _, _, rfl, hA.hA, T.cl, T.nR, rF_releases, L.lR, _, rfl, .inl (SqL.of hp), _, _, rfl, rfl, _, rfl, ?_⟩
      rw [gl]
      cases c4 : g.released[s]? with
      | none =>
        have := List.getElem?_eq_none_iff.mp c4
        exact if_true_of (decide_eq_true (by omega)) (one _ (step_ch1 (re2.trans c4)))
      | some y =>
        have hlt2 := (List.getElem?_eq_some_iff.mp c4).1
        refine if_false_of (decide_eq_false (by omega)) ?_
        have st := step_ch2 (re1.trans c3) (re2.trans c4)
        obtain ⟨rd1, q1, es1, hd1, _, pr1⟩ := hrl r x c3
        obtain ⟨rd2, q2, es2, hd2, _, pr2⟩ := hrl s y c4
        have la := hO.rll x (List.mem_of_getElem? c3)
        have lb := hO.rll y (List.mem_of_getElem? c4)
        have el1 : es1.length = x.2.2.length := (paired_len pr1).symm
        have el2 : es2.length = y.2.2.length := (paired_len pr2).symm
        generalize x.2.2 = a at st pr1 la el1
        generalize y.2.2 = b at st pr2 lb el2
        refine ⟨_, rfl, L.a, C, L.dx, _, _, rfl, hA.hA, T.cl, T.nR, rF_releases, _, rfl, L.lR, _, _, V.ref rd1, rfl, rfl, SqL.of hp, atI_nat (by rw [List.getElem?_map, q1]; rfl), ?_⟩
        refine ⟨_, rfl, L.a, C, L.dx, _, _, rfl, hA.hA, T.cl, T.nR, rF_releases, _, rfl, L.lR, _, _, V.ref rd2, rfl, rfl, SqL.of hp, atI_nat (by rw [List.getElem?_map, q2]; rfl), ?_⟩
        -- those of the first
        refine ⟨rd1, _, hd1, trivial, fun od => ⟨_, rfl, rd1, od, rfl, .inl ⟨es1, upd_same, fun D hD => ?_⟩⟩⟩
        have hD0 : H D = none := upd_free hD
        have nD1 : rd1 ≠ D := ne_of_none hd1 hD0
        refine lc_it (walk_keys (d := rd1) (o := od) (kvs := es1)) (vs := [6]) (fun i H' => H' = upd (upd H rd1 (.frz od (.dK es1))) D (.lst (((a.take i).filter (pA a b)).map fun l => nV l.1))) rfl (fun i H' _ e => by rw [e, upd_ne nD1]; exact upd_same) ?_ ?_
        · rintro i z H5 H6 hi rfl ⟨rfl, kk, v, hk, rfl⟩
          obtain ⟨ln, hl, tt, e1, e2⟩ := paired_at pr1 hk
          have e1 := (Prod.mk.inj e1).1
          subst e1
          have fm := filter_more (p := pA a b) hl
          have r1 := rd_under (x := .lst (((a.take i).filter (pA a b)).map fun l => nV l.1)) (o := od) hd1 hd1 hD0
          have r2 := rd_under (x := .lst (((a.take i).filter (pA a b)).map fun l => nV l.1)) (o := od) hd1 hd2 hD0
          have tu : ∀ t us, H t = some (.tup us) → upd (upd H rd1 (.frz od (.dK es1))) D (.lst (((a.take i).filter (pA a b)).map fun l => nV l.1)) t = some (.tup us) := fun t us et => by
            rw [upd_ne (ne_of_none et hD0), upd_ne (ne_of et hd1 (fun z => nomatch z))]
            exact et
          have kept : pA a b ln = true → (tVar 6) [some (.ref L.a), some (nV r), some (nV s), some (.ref rd1), some (.ref rd2), none, some (kV (nK ln.1))] (upd (upd H rd1 (.frz od (.dK es1))) D (.lst (((a.take i).filter (pA a b)).map fun l => nV l.1))) fun y H4 => ∃ acc, H4 D = some (.lst acc) ∧ acc.length < sizeLine ∧ upd H4 D (.lst (acc ++ [y])) = upd (upd H rd1 (.frz od (.dK es1))) D (.lst (((a.take (i + 1)).filter (pA a b)).map fun l => nV l.1)) := by
            intro hpA
            refine ⟨_, rfl, _, upd_same, small1000 ?_, ?_⟩
            · rw [List.length_map]
              have := List.length_filter_le (pA a b) (a.take i)
              have := List.length_take_le' i a
              omega
            · rw [upd_upd, fm, if_pos hpA, List.map_append]
              rfl
          have sa : (lineAt a ln.1).isSome = true := by
            rw [lineAt_isSome, List.any_eq_true]
            exact ⟨ln, List.mem_of_getElem? hl, beq_self_eq_true _⟩
          show wipe _ _ = wipe _ _ ∧ _
          refine ⟨rfl, ?_⟩
          refine ⟨_, rfl, _, rfl, rd2, _, rfl, .inl ⟨es2, nK ln.1, r2, rfl, rfl⟩, _, rfl, ?_⟩
          rcases val_line ln.1 pr1 with ⟨z1, _⟩ | ⟨l1, t1, z1, z2, z3⟩
          · rw [z1] at sa
            cases sa
          rcases val_line ln.1 pr2 with ⟨y1, y2⟩ | ⟨l2, t2, y1, y2, y3⟩
          · rw [y2]
            refine if_true_of (by rfl) (iteT (kept ?_))
            unfold pA
            rw [z1, y1]
            rfl
          · rw [y2]
            refine if_false_of (by rfl) ?_
            refine ⟨_, rfl, _, rfl, rd1, .ref t1, rfl, .inl ⟨es1, nK ln.1, r1, rfl, z2.symm⟩, _, rfl, _, rfl, rd2, .ref t2, rfl, .inl ⟨es2, nK ln.1, r2, rfl, y2.symm⟩, ?_⟩
            refine ⟨_, _, .tup (SqT.of (tu _ _ z3)) (.cons (.int _) (.cons (.int _) .nil)), .tup (SqT.of (tu _ _ y3)) (.cons (.int _) (.cons (.int _) .nil)), by rfl, by rfl, _, rfl, ?_⟩
            have ee : pA a b ln = !(some l1 == some l2) := by
              unfold pA
              rw [z1, y1]
            rw [eqv_line ((lineAt_key z1).trans (lineAt_key y1).symm), ← ee]
            cases c5 : pA a b ln with
            | true => exact if_true_of rfl (kept c5)
            | false =>
              refine if_false_of rfl ?_
              rw [fm, c5, if_neg Bool.false_ne_true, List.append_nil]
        · rintro H5 e5
          rw [el1, List.take_length] at e5
          subst e5
          refine ⟨by rw [upd_ne nD1]; exact upd_same, ?_⟩
          rw [unlock_new hd1 nD1]
          have s1 := upd_new (o := .lst ((a.filter (pA a b)).map fun l => nV l.1)) hD0
          have hD1 : upd H D (.lst ((a.filter (pA a b)).map fun l => nV l.1)) D = some (.lst ((a.filter (pA a b)).map fun l => nV l.1)) := upd_same
          have lA : ((a.filter (pA a b)).map fun l => nV l.1).length ≤ 10 := by
            rw [List.length_map]
            exact Nat.le_trans (List.length_filter_le ..) la
          generalize upd H D (.lst ((a.filter (pA a b)).map fun l => nV l.1)) = H1 at s1 hD1
          have hd1' := s1 _ _ hd1
          have hd2' := s1 _ _ hd2
          -- those of the second alone
          refine ⟨_, rfl, .inl ⟨rfl, _, SqL.of hD1⟩, rd2, _, hd2', trivial, fun o2 => ⟨_, rfl, rd2, o2, rfl, .inl ⟨es2, upd_same, fun D2 hD2 => ?_⟩⟩⟩
          have hE1 : H1 D2 = none := upd_free hD2
          have nE2 : rd2 ≠ D2 := ne_of_none hd2' hE1
          have nDE : D ≠ D2 := ne_of_none hD1 hE1
          refine lc_it (walk_keys (d := rd2) (o := o2) (kvs := es2)) (vs := [6]) (fun i H' => H' = upd (upd H1 rd2 (.frz o2 (.dK es2))) D2 (.lst (((b.take i).filter (pB a)).map fun l => nV l.1))) rfl (fun i H' _ e => by rw [e, upd_ne nE2]; exact upd_same) ?_ ?_
          · rintro i z H5 H6 hi rfl ⟨rfl, kk, v, hk, rfl⟩
            obtain ⟨ln, hl, tt, e1, e2⟩ := paired_at pr2 hk
            have e1 := (Prod.mk.inj e1).1
            subst e1
            have fm := filter_more (p := pB a) hl
            have r1 := rd_under (x := .lst (((b.take i).filter (pB a)).map fun l => nV l.1)) (o := o2) hd2' hd1' hE1
            show wipe _ _ = wipe _ _ ∧ _
            refine ⟨rfl, ?_⟩
            refine ⟨_, rfl, _, rfl, rd1, _, rfl, .inl ⟨es1, nK ln.1, r1, rfl, rfl⟩, _, rfl, ?_⟩
            have eb : (!(valV es1 (nK ln.1)).isSome) = pB a ln := by
              unfold pB
              rcases val_line ln.1 pr1 with ⟨z1, z2⟩ | ⟨l1, t1, z1, z2, z3⟩
              · rw [z1, z2]
                rfl
              · rw [z1, z2]
                rfl
            rw [eb]
            cases c5 : pB a ln with
            | true =>
              refine if_true_of rfl ⟨_, rfl, _, upd_same, small1000 ?_, ?_⟩
              · rw [List.length_map]
                have := List.length_filter_le (pB a) (b.take i)
                have := List.length_take_le' i b
                omega
              · rw [upd_upd, fm, c5, if_pos rfl, List.map_append]
                rfl
            | false =>
              refine if_false_of rfl ?_
              rw [fm, c5, if_neg Bool.false_ne_true, List.append_nil]
          · rintro H5 e5
            rw [el2, List.take_length] at e5
            subst e5
            refine ⟨by rw [upd_ne nE2]; exact upd_same, ?_⟩
            rw [unlock_new hd2' nE2]
            have s2 := upd_new (o := .lst ((b.filter (pB a)).map fun l => nV l.1)) hE1
            have lB : ((b.filter (pB a)).map fun l => nV l.1).length ≤ 10 := by
              rw [List.length_map]
              exact Nat.le_trans (List.length_filter_le ..) lb
            refine ⟨D, D2, _, _, rfl, rfl, s2 _ _ hD1, upd_same, by omega, ?_⟩
            have eL : (a.filter (pA a b)).map (fun l => nV l.1) ++ (b.filter (pB a)).map (fun l => nV l.1) = (chA a b ++ chB a b).map nV := by
              rw [chA_eq, chB_eq, List.map_append, List.map_map, List.map_map]
              rfl
            have lC : ((chA a b ++ chB a b).map nV).length ≤ 20 := by
              rw [← eL, List.length_append]
              omega
            rw [eL]
            have s3 : Same H (upd (upd H1 D2 (.lst ((b.filter (pB a)).map fun l => nV l.1))) D (.lst ((chA a b ++ chB a b).map nV))) := fun c o ec => by
              rw [upd_ne (ne_of_none ec hD0)]
              exact s2 _ _ (s1 c o ec)
            have hD3 : upd (upd H1 D2 (.lst ((b.filter (pB a)).map fun l => nV l.1))) D (.lst ((chA a b ++ chB a b).map nV)) D = some (.lst ((chA a b ++ chB a b).map nV)) := upd_same
            generalize upd (upd H1 D2 (.lst ((b.filter (pB a)).map fun l => nV l.1))) D (.lst ((chA a b ++ chB a b).map nV)) = H3 at s3 hD3
            refine ⟨_, rfl, D, _, rfl, .inl (SqL.of hD3), by show 1 ≤ sizeLine; decide, fun p1 hp1 => ?_⟩
            have s4 := upd_new (o := .lst [.int (((chA a b ++ chB a b).map nV).length : Nat)]) hp1
            refine ⟨_, rfl, p1, D, _, _, rfl, rfl, upd_same, s4 _ _ hD3, by show 1 + _ ≤ _; omega, fun p2 hp2 => ?_⟩
            have s5 := s3.trans s4
            have zz := q.done st (hA.same s5) (Fr.same s5) (fun c hc => s5.free hc) p2 hp2
            rw [ints_V, List.map_cons] at zz
            rw [List.length_map] at zz ⊢
            exact zz
end
end Tof

namespace Tof
open PySem PySem.Spec PyProof.Rows L2
/-! ### a call as it is handed in -/
abbrev toI (l : List Nat) : List Int := l.map fun (n : Nat) => (n : Int)
def flatN (l : List (Nat × Nat)) : List Nat := l.flatMap fun x => [x.1, x.2]
inductive Told : List (List Int) → Ut14.Call → Prop where
  | text (k x : Nat) : Told [toI [0, k, x]] (.text k x)
  | gone (k : Nat) : Told [toI [1, k]] (.gone k)
  | translate (t k w : Nat) : Told [toI [2, t, k, w]] (.translate t k w)
  | send (t : Nat) (l : List Nat) (h : l.length ≤ 10) : Told [toI [3, t], toI l] (.send t l)
  | back (p : Nat) (l : List (Nat × Nat)) (h : (flatN l).length ≤ 20) : Told [toI [4, p], toI (flatN l)] (.back p l)
  | choose (t k x : Nat) (b : Bool) : Told [toI [5, t, k, x, Ut14.bit b]] (.choose t k x b)
  | release (t : Nat) : Told [toI [6, t]] (.release t)
  | look (r k : Nat) : Told [toI [7, r, k]] (.look r k)
  | now (t : Nat) : Told [toI [8, t]] (.now t)
  | todo (t : Nat) : Told [toI [9, t]] (.todo t)
  | offer (t k : Nat) : Told [toI [10, t, k]] (.offer t k)
  | open_ (t : Nat) : Told [toI [11, t]] (.open_ t)
  | changed (r s : Nat) : Told [toI [12, r, s]] (.changed r s)
  | state : Told [toI [13]] .state
theorem nat_of {l : List Int} (h : l.all Ut14Neutral.nat = true) : ∃ m : List Nat, l = toI m := by
  refine ⟨l.map Int.toNat, ?_⟩
  rw [List.all_eq_true] at h
  show l = (l.map Int.toNat).map fun (n : Nat) => (n : Int)
  rw [List.map_map]
  have : ∀ x ∈ l, ((fun (n : Nat) => (n : Int)) ∘ Int.toNat) x = x := fun x hx => by
    have := h x hx
    unfold Ut14Neutral.nat at this
    rw [Bool.and_eq_true, decide_eq_true_eq, decide_eq_true_eq] at this
    show ((x.toNat : Nat) : Int) = x
    omega
  rw [List.map_congr_left this, List.map_id'']
  exact fun _ => rfl
theorem toI_nat (m : List Nat) : (toI m).map Int.toNat = m := by
  rw [List.map_map]
  exact List.map_id'' (fun n => rfl) m
theorem pairs_in : ∀ (l : List Nat) (m : List (Nat × Nat)), Ut14Neutral.pairsIn l = some m → l = flatN m
  | [], m, h => by
    have h := Option.some.inj h
    subst h
    rfl
  | [_], m, h => by cases h
  | a :: b :: l, m, h => by
    have h : (Ut14Neutral.pairsIn l).map (fun r => (a, b) :: r) = some m := h
    cases e : Ut14Neutral.pairsIn l with
    | none =>
      rw [e] at h
      cases h
    | some r =>
      rw [e] at h
      have h := Option.some.inj h
      subst h
      have ih := pairs_in l r e
      show a :: b :: l = a :: b :: flatN r
      rw [← ih]
theorem head_of {c : List (List Int)} (ha : Ut14Neutral.asked1 ((PyUt14.whole c).headD []) = true) : ∃ cl, Ut14Neutral.callOf ((PyUt14.whole c).headD []) = some cl := Option.isSome_iff_exists.mp ha
theorem callOf_nat {l : List Int} {cl : Ut14.Call} (h : Ut14Neutral.callOf l = some cl) : ∃ m : List Nat, l = toI m ∧ Ut14Neutral.callIn m = some cl := by
  unfold Ut14Neutral.callOf at h
  cases c : l.all Ut14Neutral.nat with
  | false =>
    rw [c, if_pos rfl] at h
    cases h
  | true =>
    rw [c, if_neg (by decide)] at h
    obtain ⟨m, e⟩ := nat_of c
    rw [e, toI_nat] at h
    exact ⟨m, e, h⟩
theorem shape_some {p : Int} {n k : Nat} (h : PyUt14.shape p = some (n, k)) :
    (p = 0 ∧ n = 2 ∧ k = 0) ∨ (p = 1 ∧ n = 1 ∧ k = 0) ∨ (p = 2 ∧ n = 3 ∧ k = 0) ∨ (p = 3 ∧ n = 1 ∧ k = 1) ∨ (p = 4 ∧ n = 1 ∧ k = 1) ∨ (p = 5 ∧ n = 4 ∧ k = 0) ∨ (p = 6 ∧ n = 1 ∧ k = 0) ∨ (p = 7 ∧ n = 2 ∧ k = 0) ∨ (p = 8 ∧ n = 1 ∧ k = 0) ∨ (p = 9 ∧ n = 1 ∧ k = 0) ∨ (p = 10 ∧ n = 2 ∧ k = 0) ∨ (p = 11 ∧ n = 1 ∧ k = 0) ∨ (p = 12 ∧ n = 2 ∧ k = 0) ∨ (p = 13 ∧ n = 0 ∧ k = 0) := by
  unfold PyUt14.shape at h
  by_cases c0 : p = 0
  · rw [if_pos c0] at h
    obtain ⟨e1, e2⟩ := Prod.mk.inj (Option.some.inj h)
    exact Or.inl ⟨c0, e1.symm, e2.symm⟩
  rw [if_neg c0] at h
  by_cases c1 : p = 1
  · rw [if_pos c1] at h
    obtain ⟨e1, e2⟩ := Prod.mk.inj (Option.some.inj h)
    exact .inr (Or.inl ⟨c1, e1.symm, e2.symm⟩)
  rw [if_neg c1] at h
  by_cases c2 : p = 2
  · rw [if_pos c2] at h
    obtain ⟨e1, e2⟩ := Prod.mk.inj (Option.some.inj h)
    exact .inr (.inr (Or.inl ⟨c2, e1.symm, e2.symm⟩))
  rw [if_neg c2] at h
  by_cases c3 : p = 3
  · rw [if_pos c3] at h
    obtain ⟨e1, e2⟩ := Prod.mk.inj (Option.some.inj h)
    exact .inr (.inr (.inr (Or.inl ⟨c3, e1.symm, e2.symm⟩)))
  rw [if_neg c3] at h
  by_cases c4 : p = 4
  · rw [if_pos c4] at h
    obtain ⟨e1, e2⟩ := Prod.mk.inj (Option.some.inj h)
    exact .inr (.inr (.inr (.inr (Or.inl ⟨c4, e1.symm, e2.symm⟩))))
  rw [if_neg c4] at h
  by_cases c5 : p = 5
  · rw [if_pos c5] at h
    obtain ⟨e1, e2⟩ := Prod.mk.inj (Option.some.inj h)
    exact .inr (.inr (.inr (.inr (.inr (Or.inl ⟨c5, e1.symm, e2.symm⟩)))))
  rw [if_neg c5] at h
  by_cases c6 : p = 6
  · rw [if_pos c6] at h
    obtain ⟨e1, e2⟩ := Prod.mk.inj (Option.some.inj h)
    exact .inr (.inr (.inr (.inr (.inr (.inr (Or.inl ⟨c6, e1.symm, e2.symm⟩))))))
  rw [if_neg c6] at h
  by_cases c7 : p = 7
  · rw [if_pos c7] at h
    obtain ⟨e1, e2⟩ := Prod.mk.inj (Option.some.inj h)
    exact .inr (.inr (.inr (.inr (.inr (.inr (.inr (Or.inl ⟨c7, e1.symm, e2.symm⟩)))))))
  rw [if_neg c7] at h
  by_cases c8 : p = 8
  · rw [if_pos c8] at h
    obtain ⟨e1, e2⟩ := Prod.mk.inj (Option.some.inj h)
    exact .inr (.inr (.inr (.inr (.inr (.inr (.inr (.inr (Or.inl ⟨c8, e1.symm, e2.symm⟩))))))))
  rw [if_neg c8] at h
  by_cases c9 : p = 9
  · rw [if_pos c9] at h
    obtain ⟨e1, e2⟩ := Prod.mk.inj (Option.some.inj h)
    exact .inr (.inr (.inr (.inr (.inr (.inr (.inr (.inr (.inr (Or.inl ⟨c9, e1.symm, e2.symm⟩)))))))))
  rw [if_neg c9] at h
  by_cases c10 : p = 10
  · rw [if_pos c10] at h
    obtain ⟨e1, e2⟩ := Prod.mk.inj (Option.some.inj h)
    exact .inr (.inr (.inr (.inr (.inr (.inr (.inr (.inr (.inr (.inr (Or.inl ⟨c10, e1.symm, e2.symm⟩))))))))))
  rw [if_neg c10] at h
  by_cases c11 : p = 11
  · rw [if_pos c11] at h
    obtain ⟨e1, e2⟩ := Prod.mk.inj (Option.some.inj h)
    exact .inr (.inr (.inr (.inr (.inr (.inr (.inr (.inr (.inr (.inr (.inr (Or.inl ⟨c11, e1.symm, e2.symm⟩)))))))))))
  rw [if_neg c11] at h
  by_cases c12 : p = 12
  · rw [if_pos c12] at h
    obtain ⟨e1, e2⟩ := Prod.mk.inj (Option.some.inj h)
    exact .inr (.inr (.inr (.inr (.inr (.inr (.inr (.inr (.inr (.inr (.inr (.inr (Or.inl ⟨c12, e1.symm, e2.symm⟩))))))))))))
  rw [if_neg c12] at h
  by_cases c13 : p = 13
  · rw [if_pos c13] at h
    obtain ⟨e1, e2⟩ := Prod.mk.inj (Option.some.inj h)
    exact .inr (.inr (.inr (.inr (.inr (.inr (.inr (.inr (.inr (.inr (.inr (.inr (.inr (⟨c13, e1.symm, e2.symm⟩)))))))))))))
  rw [if_neg c13] at h
  cases h
theorem cons2 {α : Type} {l : List α} {n : Nat} (h : l.length = n + 1) : ∃ a r, l = a :: r ∧ r.length = n := by
  cases l with
  | nil => cases h
  | cons a r => exact ⟨a, r, rfl, Nat.succ.inj h⟩
theorem bit_of {n : Nat} {b : Bool} (h : Ut14Neutral.bit n = some b) : n = Ut14.bit b := by
  unfold Ut14Neutral.bit at h
  by_cases c : n = 0
  · rw [if_pos c] at h
    rw [← Option.some.inj h, c]
    rfl
  · rw [if_neg c] at h
    by_cases d : n = 1
    · rw [if_pos d] at h
      rw [← Option.some.inj h, d]
      rfl
    · rw [if_neg d] at h
      cases h
/-- the numbers of a list that is told in naturals -/
theorem toI_cons {a : Int} {l : List Int} {m : List Nat} (h : a :: l = toI m) : ∃ (n : Nat) (r : List Nat), m = n :: r ∧ a = (n : Int) ∧ l = toI r := by
  cases m with
  | nil => cases h
  | cons n r =>
    obtain ⟨e1, e2⟩ := List.cons.inj h
    exact ⟨n, r, rfl, e1, e2⟩
theorem toI_nil {m : List Nat} (h : ([] : List Int) = toI m) : m = [] := by
  cases m with
  | nil => rfl
  | cons n r => cases h
/-- what is handed in as a call is one of the document's -/
theorem told_of {c : List (List Int)} (ho : PyFlat.okCall PyUt14.shape c) (hb : PyInside.call PyUt14.bound c = true) (ha : Ut14Neutral.asked1 ((PyUt14.whole c).headD []) = true) :
    ∃ cl, Told c cl ∧ Ut14Neutral.callOf ((PyUt14.whole c).headD []) = some cl := by
  obtain ⟨cl, hc⟩ := head_of ha
  refine ⟨cl, ?_, hc⟩
  obtain ⟨p, a, xs, rfl, hs⟩ := ho
  obtain ⟨m, hm, hi⟩ := callOf_nat hc
  rcases shape_some hs with ⟨rfl, hn, hk⟩ | ⟨rfl, hn, hk⟩ | ⟨rfl, hn, hk⟩ | ⟨rfl, hn, hk⟩ | ⟨rfl, hn, hk⟩ | ⟨rfl, hn, hk⟩ | ⟨rfl, hn, hk⟩ | ⟨rfl, hn, hk⟩ | ⟨rfl, hn, hk⟩ | ⟨rfl, hn, hk⟩ | ⟨rfl, hn, hk⟩ | ⟨rfl, hn, hk⟩ | ⟨rfl, hn, hk⟩ | ⟨rfl, hn, hk⟩
  · -- 0
    obtain ⟨y0, a0, ea0, hn0⟩ := cons2 hn
    subst ea0
    obtain ⟨y1, a1, ea1, hn1⟩ := cons2 hn0
    subst ea1
    have en := List.length_eq_zero_iff.mp hn1
    subst en
    have ek := List.length_eq_zero_iff.mp hk
    subst ek
    have hm : ([0, y0, y1] : List Int) = toI m := hm
    obtain ⟨n0, r0, em0, ez0, hm0⟩ := toI_cons hm
    subst em0
    obtain ⟨n1, r1, em1, ez1, hm1⟩ := toI_cons hm0
    subst em1
    obtain ⟨n2, r2, em2, ez2, hm2⟩ := toI_cons hm1
    subst em2
    have er := toI_nil hm2
    subst er
    have e0 : n0 = 0 := by omega
    subst e0
    subst ez1
    subst ez2
    have hi : some (Ut14.Call.text n1 n2) = some cl := hi
    have hi := Option.some.inj hi
    subst hi
    exact Told.text n1 n2
  · -- 1
    obtain ⟨y0, a0, ea0, hn0⟩ := cons2 hn
    subst ea0
    have en := List.length_eq_zero_iff.mp hn0
    subst en
    have ek := List.length_eq_zero_iff.mp hk
    subst ek
    have hm : ([1, y0] : List Int) = toI m := hm
    obtain ⟨n0, r0, em0, ez0, hm0⟩ := toI_cons hm
    subst em0
    obtain ⟨n1, r1, em1, ez1, hm1⟩ := toI_cons hm0
    subst em1
    have er := toI_nil hm1
    subst er
    have e0 : n0 = 1 := by omega
    subst e0
    subst ez1
    have hi : some (Ut14.Call.gone n1) = some cl := hi
    have hi := Option.some.inj hi
    subst hi
    exact Told.gone n1
  · -- 2
    obtain ⟨y0, a0, ea0, hn0⟩ := cons2 hn
    subst ea0
    obtain ⟨y1, a1, ea1, hn1⟩ := cons2 hn0
    subst ea1
    obtain ⟨y2, a2, ea2, hn2⟩ := cons2 hn1
    subst ea2
    have en := List.length_eq_zero_iff.mp hn2
    subst en
    have ek := List.length_eq_zero_iff.mp hk
    subst ek
    have hm : ([2, y0, y1, y2] : List Int) = toI m := hm
    obtain ⟨n0, r0, em0, ez0, hm0⟩ := toI_cons hm
    subst em0
    obtain ⟨n1, r1, em1, ez1, hm1⟩ := toI_cons hm0
    subst em1
    obtain ⟨n2, r2, em2, ez2, hm2⟩ := toI_cons hm1
    subst em2
    obtain ⟨n3, r3, em3, ez3, hm3⟩ := toI_cons hm2
    subst em3
    have er := toI_nil hm3
    subst er
    have e0 : n0 = 2 := by omega
    subst e0
    subst ez1
    subst ez2
    subst ez3
    have hi : some (Ut14.Call.translate n1 n2 n3) = some cl := hi
    have hi := Option.some.inj hi
    subst hi
    exact Told.translate n1 n2 n3
  · -- 3
    obtain ⟨y0, a0, ea0, hn0⟩ := cons2 hn
    subst ea0
    have en := List.length_eq_zero_iff.mp hn0
    subst en
    obtain ⟨r, rs, er, hr⟩ := cons2 hk
    subst er
    have ek := List.length_eq_zero_iff.mp hr
    subst ek
    have hm : (3 : Int) :: y0 :: r = toI m := hm
    obtain ⟨n0, r0, em0, ez0, hm0⟩ := toI_cons hm
    subst em0
    obtain ⟨n1, r1, em1, ez1, hm1⟩ := toI_cons hm0
    subst em1
    have e0 : n0 = 3 := by omega
    subst e0
    subst ez1
    subst hm1
    have hl : (PyInside.each [(0, 4294967295)] [((n1 : Nat) : Int)] && PyInside.lists [(0, 4294967295, 0, 10)] [toI r1]) = true := hb
    rw [Bool.and_eq_true] at hl
    have hl := hl.2
    unfold PyInside.lists at hl
    rw [Bool.and_eq_true, Bool.and_eq_true, Bool.and_eq_true, decide_eq_true_eq, decide_eq_true_eq, List.length_map] at hl
    have hlen := hl.1.1.2
    have hi : some (Ut14.Call.send n1 r1) = some cl := hi
    have hi := Option.some.inj hi
    subst hi
    exact Told.send n1 r1 hlen
  · -- 4
    obtain ⟨y0, a0, ea0, hn0⟩ := cons2 hn
    subst ea0
    have en := List.length_eq_zero_iff.mp hn0
    subst en
    obtain ⟨r, rs, er, hr⟩ := cons2 hk
    subst er
    have ek := List.length_eq_zero_iff.mp hr
    subst ek
    have hm : (4 : Int) :: y0 :: r = toI m := hm
    obtain ⟨n0, r0, em0, ez0, hm0⟩ := toI_cons hm
    subst em0
    obtain ⟨n1, r1, em1, ez1, hm1⟩ := toI_cons hm0
    subst em1
    have e0 : n0 = 4 := by omega
    subst e0
    subst ez1
    subst hm1
    have hl : (PyInside.each [(0, 4294967295)] [((n1 : Nat) : Int)] && PyInside.lists [(0, 4294967295, 0, 20)] [toI r1]) = true := hb
    rw [Bool.and_eq_true] at hl
    have hl := hl.2
    unfold PyInside.lists at hl
    rw [Bool.and_eq_true, Bool.and_eq_true, Bool.and_eq_true, decide_eq_true_eq, decide_eq_true_eq, List.length_map] at hl
    have hlen := hl.1.1.2
    have hi : (Ut14Neutral.pairsIn r1).map (fun m => Ut14.Call.back n1 m) = some cl := hi
    cases ep : Ut14Neutral.pairsIn r1 with
    | none =>
      rw [ep] at hi
      cases hi
    | some l =>
      rw [ep] at hi
      have hi := Option.some.inj hi
      subst hi
      have e := pairs_in r1 l ep
      subst e
      exact Told.back n1 l hlen
  · -- 5
    obtain ⟨y0, a0, ea0, hn0⟩ := cons2 hn
    subst ea0
    obtain ⟨y1, a1, ea1, hn1⟩ := cons2 hn0
    subst ea1
    obtain ⟨y2, a2, ea2, hn2⟩ := cons2 hn1
    subst ea2
    obtain ⟨y3, a3, ea3, hn3⟩ := cons2 hn2
    subst ea3
    have en := List.length_eq_zero_iff.mp hn3
    subst en
    have ek := List.length_eq_zero_iff.mp hk
    subst ek
    have hm : ([5, y0, y1, y2, y3] : List Int) = toI m := hm
    obtain ⟨n0, r0, em0, ez0, hm0⟩ := toI_cons hm
    subst em0
    obtain ⟨n1, r1, em1, ez1, hm1⟩ := toI_cons hm0
    subst em1
    obtain ⟨n2, r2, em2, ez2, hm2⟩ := toI_cons hm1
    subst em2
    obtain ⟨n3, r3, em3, ez3, hm3⟩ := toI_cons hm2
    subst em3
    obtain ⟨n4, r4, em4, ez4, hm4⟩ := toI_cons hm3
    subst em4
    have er := toI_nil hm4
    subst er
    have e0 : n0 = 5 := by omega
    subst e0
    subst ez1
    subst ez2
    subst ez3
    subst ez4
    have hi : (Ut14Neutral.bit n4).map (fun b => Ut14.Call.choose n1 n2 n3 b) = some cl := hi
    cases eb : Ut14Neutral.bit n4 with
    | none =>
      rw [eb] at hi
      cases hi
    | some b =>
      rw [eb] at hi
      have hi := Option.some.inj hi
      subst hi
      rw [bit_of eb]
      exact Told.choose n1 n2 n3 b
  · -- 6
    obtain ⟨y0, a0, ea0, hn0⟩ := cons2 hn
    subst ea0
    have en := List.length_eq_zero_iff.mp hn0
    subst en
    have ek := List.length_eq_zero_iff.mp hk
    subst ek
    have hm : ([6, y0] : List Int) = toI m := hm
    obtain ⟨n0, r0, em0, ez0, hm0⟩ := toI_cons hm
    subst em0
    obtain ⟨n1, r1, em1, ez1, hm1⟩ := toI_cons hm0
    subst em1
    have er := toI_nil hm1
    subst er
    have e0 : n0 = 6 := by omega
    subst e0
    subst ez1
    have hi : some (Ut14.Call.release n1) = some cl := hi
    have hi := Option.some.inj hi
    subst hi
    exact Told.release n1
  · -- 7
    obtain ⟨y0, a0, ea0, hn0⟩ := cons2 hn
    subst ea0
    obtain ⟨y1, a1, ea1, hn1⟩ := cons2 hn0
    subst ea1
    have en := List.length_eq_zero_iff.mp hn1
    subst en
    have ek := List.length_eq_zero_iff.mp hk
    subst ek
    have hm : ([7, y0, y1] : List Int) = toI m := hm
    obtain ⟨n0, r0, em0, ez0, hm0⟩ := toI_cons hm
    subst em0
    obtain ⟨n1, r1, em1, ez1, hm1⟩ := toI_cons hm0
    subst em1
    obtain ⟨n2, r2, em2, ez2, hm2⟩ := toI_cons hm1
    subst em2
    have er := toI_nil hm2
    subst er
    have e0 : n0 = 7 := by omega
    subst e0
    subst ez1
    subst ez2
    have hi : some (Ut14.Call.look n1 n2) = some cl := hi
    have hi := Option.some.inj hi
    subst hi
    exact Told.look n1 n2
  · -- 8
    obtain ⟨y0, a0, ea0, hn0⟩ := cons2 hn
    subst ea0
    have en := List.length_eq_zero_iff.mp hn0
    subst en
    have ek := List.length_eq_zero_iff.mp hk
    subst ek
    have hm : ([8, y0] : List Int) = toI m := hm
    obtain ⟨n0, r0, em0, ez0, hm0⟩ := toI_cons hm
    subst em0
    obtain ⟨n1, r1, em1, ez1, hm1⟩ := toI_cons hm0
    subst em1
    have er := toI_nil hm1
    subst er
    have e0 : n0 = 8 := by omega
    subst e0
    subst ez1
    have hi : some (Ut14.Call.now n1) = some cl := hi
    have hi := Option.some.inj hi
    subst hi
    exact Told.now n1
  · -- 9
    obtain ⟨y0, a0, ea0, hn0⟩ := cons2 hn
    subst ea0
    have en := List.length_eq_zero_iff.mp hn0
    subst en
    have ek := List.length_eq_zero_iff.mp hk
    subst ek
    have hm : ([9, y0] : List Int) = toI m := hm
    obtain ⟨n0, r0, em0, ez0, hm0⟩ := toI_cons hm
    subst em0
    obtain ⟨n1, r1, em1, ez1, hm1⟩ := toI_cons hm0
    subst em1
    have er := toI_nil hm1
    subst er
    have e0 : n0 = 9 := by omega
    subst e0
    subst ez1
    have hi : some (Ut14.Call.todo n1) = some cl := hi
    have hi := Option.some.inj hi
    subst hi
    exact Told.todo n1
  · -- 10
    obtain ⟨y0, a0, ea0, hn0⟩ := cons2 hn
    subst ea0
    obtain ⟨y1, a1, ea1, hn1⟩ := cons2 hn0
    subst ea1
    have en := List.length_eq_zero_iff.mp hn1
    subst en
    have ek := List.length_eq_zero_iff.mp hk
    subst ek
    have hm : ([10, y0, y1] : List Int) = toI m := hm
    obtain ⟨n0, r0, em0, ez0, hm0⟩ := toI_cons hm
    subst em0
    obtain ⟨n1, r1, em1, ez1, hm1⟩ := toI_cons hm0
    subst em1
    obtain ⟨n2, r2, em2, ez2, hm2⟩ := toI_cons hm1
    subst em2
    have er := toI_nil hm2
    subst er
    have e0 : n0 = 10 := by omega
    subst e0
    subst ez1
    subst ez2
    have hi : some (Ut14.Call.offer n1 n2) = some cl := hi
    have hi := Option.some.inj hi
    subst hi
    exact Told.offer n1 n2
  · -- 11
    obtain ⟨y0, a0, ea0, hn0⟩ := cons2 hn
    subst ea0
    have en := List.length_eq_zero_iff.mp hn0
    subst en
    have ek := List.length_eq_zero_iff.mp hk
    subst ek
    have hm : ([11, y0] : List Int) = toI m := hm
    obtain ⟨n0, r0, em0, ez0, hm0⟩ := toI_cons hm
    subst em0
    obtain ⟨n1, r1, em1, ez1, hm1⟩ := toI_cons hm0
    subst em1
    have er := toI_nil hm1
    subst er
    have e0 : n0 = 11 := by omega
    subst e0
    subst ez1
    have hi : some (Ut14.Call.open_ n1) = some cl := hi
    have hi := Option.some.inj hi
    subst hi
    exact Told.open_ n1
  · -- 12
    obtain ⟨y0, a0, ea0, hn0⟩ := cons2 hn
    subst ea0
    obtain ⟨y1, a1, ea1, hn1⟩ := cons2 hn0
    subst ea1
    have en := List.length_eq_zero_iff.mp hn1
    subst en
    have ek := List.length_eq_zero_iff.mp hk
    subst ek
    have hm : ([12, y0, y1] : List Int) = toI m := hm
    obtain ⟨n0, r0, em0, ez0, hm0⟩ := toI_cons hm
    subst em0
    obtain ⟨n1, r1, em1, ez1, hm1⟩ := toI_cons hm0
    subst em1
    obtain ⟨n2, r2, em2, ez2, hm2⟩ := toI_cons hm1
    subst em2
    have er := toI_nil hm2
    subst er
    have e0 : n0 = 12 := by omega
    subst e0
    subst ez1
    subst ez2
    have hi : some (Ut14.Call.changed n1 n2) = some cl := hi
    have hi := Option.some.inj hi
    subst hi
    exact Told.changed n1 n2
  · -- 13
    have en := List.length_eq_zero_iff.mp hn
    subst en
    have ek := List.length_eq_zero_iff.mp hk
    subst ek
    have hm : ([13] : List Int) = toI m := hm
    obtain ⟨n0, r0, em0, ez0, hm0⟩ := toI_cons hm
    subst em0
    have er := toI_nil hm0
    subst er
    have e0 : n0 = 13 := by omega
    subst e0
    have hi : some (Ut14.Call.state ) = some cl := hi
    have hi := Option.some.inj hi
    subst hi
    exact Told.state 
end Tof

namespace Tof
open PySem PySem.Spec PyProof.Rows L2
/-! ### the request, as calls in naturals -/
def cNum : Ut14.Call → Nat
  | .text .. => 0
  | .gone .. => 1
  | .translate .. => 2
  | .send .. => 3
  | .back .. => 4
  | .choose .. => 5
  | .release .. => 6
  | .look .. => 7
  | .now .. => 8
  | .todo .. => 9
  | .offer .. => 10
  | .open_ .. => 11
  | .changed .. => 12
  | .state => 13
def cArgs : Ut14.Call → List Nat
  | .text k x => [k, x]
  | .gone k => [k]
  | .translate t k w => [t, k, w]
  | .send t _ => [t]
  | .back p _ => [p]
  | .choose t k x b => [t, k, x, Ut14.bit b]
  | .release t => [t]
  | .look r k => [r, k]
  | .now t => [t]
  | .todo t => [t]
  | .offer t k => [t, k]
  | .open_ t => [t]
  | .changed r s => [r, s]
  | .state => []
def cRow : Ut14.Call → Option (List Nat)
  | .send _ l => some l
  | .back _ l => some (flatN l)
  | _ => none
def cTail (c : Ut14.Call) : List Nat := match cRow c with
  | none => []
  | some r => r.length :: r
def cWords (c : Ut14.Call) : List Nat := cNum c :: (cArgs c ++ cTail c)
def cFits (c : Ut14.Call) : Prop := match cRow c with
  | none => True
  | some r => r.length ≤ 20
theorem told_words {c : List (List Int)} {cl : Ut14.Call} (h : Told c cl) : PyFlat.put1 c = toI (cWords cl) ∧ cFits cl := by
  cases h with
  | text k x => exact ⟨rfl, trivial⟩
  | gone k => exact ⟨rfl, trivial⟩
  | translate t k w => exact ⟨rfl, trivial⟩
  | send t l h =>
    refine ⟨?_, Nat.le_trans h (by decide)⟩
    show (3 : Int) :: (t : Int) :: (((toI l).length : Nat) : Int) :: (toI l ++ []) = (3 : Int) :: (t : Int) :: ((l.length : Nat) : Int) :: toI l
    rw [List.length_map, List.append_nil]
  | back p l h =>
    refine ⟨?_, h⟩
    show (4 : Int) :: (p : Int) :: (((toI (flatN l)).length : Nat) : Int) :: (toI (flatN l) ++ []) = (4 : Int) :: (p : Int) :: (((flatN l).length : Nat) : Int) :: toI (flatN l)
    rw [List.length_map, List.append_nil]
  | choose t k x b => exact ⟨rfl, trivial⟩
  | release t => exact ⟨rfl, trivial⟩
  | look r k => exact ⟨rfl, trivial⟩
  | now t => exact ⟨rfl, trivial⟩
  | todo t => exact ⟨rfl, trivial⟩
  | offer t k => exact ⟨rfl, trivial⟩
  | open_ t => exact ⟨rfl, trivial⟩
  | changed r s => exact ⟨rfl, trivial⟩
  | state => exact ⟨rfl, trivial⟩
/-- what is answered, call by call; the office behind them -/
def outs : Ut14.House → List Ut14.Call → List (List Int)
  | _, [] => []
  | g, c :: l => (Ut14.step g c).2 :: outs (Ut14.step g c).1 l
def behind : Ut14.House → List Ut14.Call → Ut14.House
  | g, [] => g
  | g, c :: l => behind (Ut14.step g c).1 l
theorem outs_snoc (c : Ut14.Call) : ∀ (l : List Ut14.Call) (g : Ut14.House), outs g (l ++ [c]) = outs g l ++ [(Ut14.step (behind g l) c).2]
  | [], g => rfl
  | d :: l, g => by
    show (Ut14.step g d).2 :: outs (Ut14.step g d).1 (l ++ [c]) = _
    rw [outs_snoc c l]
    rfl
theorem behind_snoc (c : Ut14.Call) : ∀ (l : List Ut14.Call) (g : Ut14.House), behind g (l ++ [c]) = (Ut14.step (behind g l) c).1
  | [], g => rfl
  | d :: l, g => behind_snoc c l (Ut14.step g d).1
theorem outs_append : ∀ (l m : List Ut14.Call) (g : Ut14.House), outs g (l ++ m) = outs g l ++ outs (behind g l) m
  | [], m, g => rfl
  | d :: l, m, g => by
    show (Ut14.step g d).2 :: outs (Ut14.step g d).1 (l ++ m) = _
    rw [outs_append l m]
    rfl
theorem told_append (a b : List (List Int)) : PyFlat.told (a ++ b) = PyFlat.told a ++ PyFlat.told b := List.flatMap_append
theorem ok_behind : ∀ (l : List Ut14.Call) {N : Nat} {g : Ut14.House}, Ok N g → Ok (N + 6 * l.length) (behind g l)
  | [], N, g, h => h
  | c :: l, N, g, h => by
    have := ok_behind l (ok_step h c)
    rw [List.length_cons]
    exact this.mono (by omega)
theorem calls_of : ∀ (raw : List (List (List Int))), (∀ c ∈ raw, ∃ cl, Told c cl ∧ Ut14Neutral.callOf ((PyUt14.whole c).headD []) = some cl) →
    ∃ cls : List Ut14.Call, cls.length = raw.length ∧ PyFlat.put raw = toI (cls.flatMap cWords) ∧ (∀ c ∈ cls, cFits c) ∧ ∀ g, PyFlat.played (fun s c => Ut14Neutral.step s (c.headD [])) g (raw.map PyUt14.whole) = outs g cls
  | [], _ => ⟨[], rfl, rfl, nofun, fun _ => rfl⟩
  | c :: raw, h => by
    obtain ⟨cls, e1, e2, e3, e4⟩ := calls_of raw fun d hd => h d (List.mem_cons_of_mem _ hd)
    obtain ⟨cl, t, hc⟩ := h c (List.mem_cons_self ..)
    obtain ⟨w1, w2⟩ := told_words t
    refine ⟨cl :: cls, congrArg (· + 1) e1, ?_, ?_, fun g => ?_⟩
    · show PyFlat.put1 c ++ PyFlat.put raw = toI (cWords cl ++ cls.flatMap cWords)
      rw [w1, e2]
      exact List.map_append.symm
    · intro d hd
      rcases List.mem_cons.mp hd with z | z
      · rw [z]
        exact w2
      · exact e3 d z
    · have st : Ut14Neutral.step g ((PyUt14.whole c).headD []) = Ut14.step g cl := by
        unfold Ut14Neutral.step
        rw [hc]
      show (Ut14Neutral.step g ((PyUt14.whole c).headD [])).2 :: PyFlat.played _ (Ut14Neutral.step g ((PyUt14.whole c).headD [])).1 (raw.map PyUt14.whole) = _
      rw [st, e4]
      rfl
theorem asked_of {ns : List Int} (h : PyUt14.answers_asked ns = true) : ∃ cls : List Ut14.Call, ns = toI (cls.flatMap cWords) ∧ cls.length ≤ 40 ∧ (∀ c ∈ cls, cFits c) ∧ PyUt14.answers ns = PyFlat.told (outs Ut14.init cls) ∧ (PyFlat.told (outs Ut14.init cls)).length ≤ 10000000 := by
  unfold PyUt14.answers_asked at h
  cases e : PyFlat.calls PyUt14.shape ns.length ns with
  | none =>
    rw [e] at h
    cases h
  | some raw =>
    rw [e] at h
    have h : (!raw.isEmpty && PyFlat.atMost 40 raw && PyInside.calls PyUt14.bound raw && Ut14Neutral.asked ((raw.map PyUt14.whole).map fun c => c.headD []) && PyFlat.short 10000000 (PyUt14.answers ns)) = true := h
    rw [Bool.and_eq_true, Bool.and_eq_true, Bool.and_eq_true, Bool.and_eq_true] at h
    obtain ⟨⟨⟨⟨_, h1⟩, h2⟩, h3⟩, h4⟩ := h
    obtain ⟨p1, p2⟩ := PyFlat.put_calls _ _ _ e
    unfold Ut14Neutral.asked at h3
    rw [Bool.and_eq_true] at h3
    have h3 := List.all_eq_true.mp h3.1
    have h2 : (raw.all (PyInside.call PyUt14.bound)) = true := h2
    rw [List.all_eq_true] at h2
    obtain ⟨cls, e1, e2, e3, e4⟩ := calls_of raw fun c hc => told_of (p2 c hc) (h2 c hc) (h3 _ (List.mem_map.mpr ⟨PyUt14.whole c, List.mem_map.mpr ⟨c, hc, rfl⟩, rfl⟩))
    have an : PyUt14.answers ns = PyFlat.told (outs Ut14.init cls) := by
      unfold PyUt14.answers PyUt14.calls
      rw [e]
      exact congrArg PyFlat.told (e4 Ut14Neutral.start)
    refine ⟨cls, p1.trans e2, ?_, e3, an, ?_⟩
    · rw [e1]
      exact of_decide_eq_true h1
    · rw [← an]
      exact of_decide_eq_true h4
end Tof

namespace Tof
open PySem PySem.Spec PyProof.Rows L2
abbrev sAnswers : Stmt := top 39
/-! ### parts of a list -/
theorem cut_mid {A B D : List V} {i j : Int} (hi : i = (A.length : Nat)) (hj : j = ((A.length + B.length : Nat) : Int)) : cutV (A ++ (B ++ D)) (some i) (some j) = B := by
  subst hi hj
  unfold cutV
  rw [HT.sIx_nat, HT.sIx_nat]
  have l : (A ++ (B ++ D)).length = A.length + (B.length + D.length) := by rw [List.length_append, List.length_append]
  rw [l, Nat.min_eq_left (by omega), Nat.min_eq_left (by omega), List.drop_left, Nat.add_sub_cancel_left, List.take_left]
theorem at_mid {A D : List V} {x : V} {i : Int} (hi : i = (A.length : Nat)) : atI (A ++ x :: D) i = some x := by
  refine at_of hi ?_
  rw [List.getElem?_append_right (Nat.le_refl _), Nat.sub_self]
  rfl
theorem SqL.stay {K : PySem.W.Frag} {H H' : Hp} {a : Addr} {xs : List V} (h : SqL K H a xs) (k : ∀ o, H a = some o → H' a = some o) : SqL K H' a xs := by
  rcases h with (z | ⟨o, z⟩) | z
  · exact .inl (.inl (k _ z))
  · exact .inl (.inr ⟨o, k _ z⟩)
  · exact .inr z
section
variable {P : Program} {w : World} {K : PySem.W.Frag} {mg : Str → Option Value} {base : Heap} {C CP : Addr}
theorem oko_behind : ∀ (l : List Ut14.Call) {g : Ut14.House}, OkO g → OkO (behind g l)
  | [], _, h => h
  | c :: l, _, h => oko_behind l (oko_step h c)
/-- answer_of, as answers calls it -/
def spAnsOf (C CP : Addr) : Sp := fun vs H Q _ => ∃ (L : Lay) (ro : Addr → Rl) (g : Ut14.House) (N : Nat) (c : Ut14.Call) (nb rb : Addr), vs = [.ref L.a, nV (cNum c), .ref nb, .ref rb] ∧ H nb = some (.lst ((cArgs c).map nV)) ∧ H rb = some (.lst (((cRow c).getD []).map nV)) ∧ cFits c ∧
  At C CP L ro H g ∧ Ok N g ∧ OkO g ∧ N ≤ 900 ∧ Ans C CP L ro H g c Q
def spAnswers (K : PySem.W.Frag) : Sp := fun vs H Q _ => ∃ (a : Addr) (ns : List Int), vs = [.ref a] ∧ SqL K H a (ns.map V.int) ∧ PyUt14.answers_asked ns = true ∧ ns.length ≤ 1000 ∧
  ∀ (H' : Hp) (p : Addr), H' p = some (.lst ((PyUt14.answers ns).map V.int)) → Q (.ref p) H'
/-- tables of the module's -/
def GTup (K : PySem.W.Frag) (mg : Str → Option Value) (x : Str) (l : List Nat) : Prop := ∃ a, mg x = some (.ref a) ∧ ∀ H : Hp, SqT K H a (l.map nV)
theorem scAnswers : FnScope ["calls", "records", "told", "at", "call", "row_at", "numbers", "row", "answer"] ["calls"] (defScope sAnswers) := ⟨rfl, rfl, rfl, by decide +kernel, rfl, by decide +kernel, by decide +kernel⟩
/-- how far the list is read -/
def muA (n : Nat) (σ : L2.St) : Nat := match σ[3]? with
  | some (some (V.int z)) => n - z.toNat
  | _ => 0
theorem in_rows (c : Ut14.Call) : inV (nV (cNum c)) [nV 3, nV 4] = (cRow c).isSome := by cases c <;> rfl
theorem ok_answers {f fI : Addr} {fd fdI : FuncData} (F : Fun K "answers" "answers" sAnswers f fd) (T : Txt K mg C CP) (WN : List Nat) (hWN : ∀ c, WN[cNum c]? = some (cArgs c).length) (TW : GTup K mg "WHOLE_NUMBERS" WN) (TC : GTup K mg "CALLS_WITH_A_ROW" [3, 4])
    (MI : Mk K C fI) (FI : FnOk P w K mg base CX0 1 fI fdI ["self"] (spInitR C CP)) (bI : Binds K fdI ["self"] []) (GA : GCal P w K mg base "answer_of" 6 ["records", "call", "numbers", "row"] (spAnsOf C CP)) : FnOk P w K mg base CX0 7 f fd ["calls"] (spAnswers K) := by
  obtain ⟨f1, fd1, g1, k1, F1, b1⟩ := GA
  obtain ⟨aw, mw, hw⟩ := TW
  obtain ⟨ac, mc, hcw⟩ := TC
  refine F.ok scAnswers (fun vs H Q E h => ?_) (fun cdv A outer s H vs Q E hr h => ⟨_, pss_cons
    (ps_set (i := 1) scAnswers.nd rfl (Or.inl rfl) (pe_make0 MI FI (hr.mono (by decide)) rfl T.gRc bI .nil pass0))
    (pss_cons (ps_set (i := 2) scAnswers.nd rfl (Or.inl rfl) (pe_lst pa_nil))
    (pss_cons (ps_set (i := 3) scAnswers.nd rfl (Or.inl rfl) pe_int)
    (pss_cons (ps_while PassesOwn.never (pt_cmpR op_lt (pv 3) (pe_callB call_len_seq (by rfl) T.len PySem.boot_len (pa_cons (pv 0) pa_nil)) (nomark _))
      (pss_cons (ps_set (i := 4) scAnswers.nd rfl (Or.inl rfl) (pe_ix ix_list (pv 0) (pv 3) (fun _ _ => rfl)))
      (pss_cons (ps_set (i := 5) scAnswers.nd rfl (Or.inl rfl) (pe_op op_add (pe_op op_add (pv 3) pe_int) (pe_ix ix_tup (pe_glob (v := .ref aw) rfl mw rfl) (pv 4) (fun _ _ => rfl))))
      (pss_cons (ps_set (i := 6) scAnswers.nd rfl (Or.inl rfl) (pe_slice sl_list (pv 0) (po_some (pe_op op_add (pv 3) pe_int)) (po_some (pv 5))))
      (pss_cons (ps_set (i := 7) scAnswers.nd rfl (Or.inl rfl) (pe_lst pa_nil))
      (pss_cons (ps_set (i := 3) scAnswers.nd rfl (Or.inl rfl) (pv 5))
      (pss_cons (ps_if (pt_cmpR op_in_seq (pv 4) (pe_glob (v := .ref ac) rfl mc rfl) (by rfl))
        (pss_cons (ps_set (i := 3) scAnswers.nd rfl (Or.inl rfl) (pe_op op_add (pe_op op_add (pv 5) pe_int) (pe_ix ix_list (pv 0) (pv 5) (fun _ _ => rfl))))
        (pss_one (ps_set (i := 7) scAnswers.nd rfl (Or.inl rfl) (pe_slice sl_list (pv 0) (po_some (pe_op op_add (pv 5) pe_int)) (po_some (pv 3)))))) pss_nil)
      (pss_cons (ps_set (i := 8) scAnswers.nd rfl (Or.inl rfl) (pe_call F1 hr rfl g1 k1 b1 .nil pass0 (pa_cons (pv 1) (pa_cons (pv 4) (pa_cons (pv 6) (pa_cons (pv 7) pa_nil))))))
      (pss_cons (ps_expr (pe_bm PySem.F.plainAttrs_list PySem.F.slot_list_append PySem.F.type_list_append mt_append (pv 2) (pa_cons (pe_callB call_len_seq (by rfl) T.len PySem.boot_len (pa_cons (pv 8) pa_nil)) pa_nil)))
      (pss_one (ps_expr (pe_bm PySem.F.plainAttrs_list PySem.F.slot_list_extend PySem.F.type_list_extend mt_extend (pv 2) (pa_cons (pv 8) pa_nil)))))))))))))
    (pss_one (ps_ret (pv 2)))))), ?_⟩)
  · obtain ⟨a, ns, rfl, _⟩ := h
    rfl
  · obtain ⟨a, ns, rfl, hS, hask, hlen, q⟩ := h
    obtain ⟨cls, ens, c40, fits, ean, ebig⟩ := asked_of hask
    rw [ean] at q
    have eW : ns.map V.int = (cls.flatMap cWords).map nV := by
      rw [ens, List.map_map]
      rfl
    rw [eW] at hS
    have lW : (cls.flatMap cWords).length ≤ 1000 := by
      rw [ens, List.length_map] at hlen
      exact hlen
    intro x dx nx nd ne
    refine ⟨x, dx, rfl, upd_same, fun L r0 H1 eL hA1 kp1 => ⟨rfl, ?_⟩⟩
    have s1 : Same H H1 := fun b o e => (kp1 b o (by rw [upd_ne (ne_of_none e nx), upd_ne (ne_of_none e nd)]; exact e) (ne_of_none e nx)).1
    refine ⟨by decide, fun tl htl => ?_⟩
    have hA2 := hA1.new (o := .lst []) htl
    have oth_of : ∀ o, H a = some o → r0 a = .oth := fun o e => (kp1 a o (by rw [upd_ne (ne_of_none e nx), upd_ne (ne_of_none e nd)]; exact e) (ne_of_none e nx)).2
    subst eL
    refine while_by (fun σ H' => ∃ (pre post : List Ut14.Call) (ro : Addr → Rl) (v4 v5 v6 v7 v8 : Option V), cls = pre ++ post ∧ σ = [some (.ref a), some (.ref L.a), some (.ref tl), some (nV (pre.flatMap cWords).length), v4, v5, v6, v7, v8] ∧
        At C CP L ro H' (behind Ut14.init pre) ∧ H' tl = some (.lst ((PyFlat.told (outs Ut14.init pre)).map V.int)) ∧ ro tl = .oth ∧ SqL K H' a ((cls.flatMap cWords).map nV) ∧ (∀ o, H a = some o → H' a = some o ∧ ro a = .oth))
      (fun σ _ => muA (cls.flatMap cWords).length σ) ?_ ?_ ?_
    · exact ⟨[], cls, r0, none, none, none, none, none, rfl, rfl, hA2, upd_same, hA1.fresh tl htl, (s1.trans (upd_new htl)).seq hS, fun o e => ⟨upd_new htl _ _ (s1 _ _ e), oth_of o e⟩⟩
    · rintro σ H' ⟨pre, post, ro, v4, v5, v6, v7, v8, ecls, rfl, hA, ht, rt, hS', hO⟩
      have p40 : pre.length + post.length ≤ 40 := by
        rw [← List.length_append, ← ecls]
        exact c40
      refine ⟨_, rfl, _, rfl, a, _, rfl, .inl hS', _, _, rfl, rfl, _, rfl, ?_⟩
      rw [List.length_map]
      cases post with
      | nil =>
        rw [List.append_nil] at ecls
        subst ecls
        refine if_false_of (decide_eq_false (by omega)) ?_
        exact ⟨_, rfl, q H' tl ht⟩
      | cons c post =>
        have fc : cFits c := fits c (by rw [ecls]; exact List.mem_append.mpr (.inr (List.mem_cons_self ..)))
        have okg : Ok (6 * pre.length) (behind Ut14.init pre) := by
          have := ok_behind pre Ok.init
          rw [Nat.zero_add] at this
          exact this
        have eW2 : cls.flatMap cWords = pre.flatMap cWords ++ (cWords c ++ post.flatMap cWords) := by
          rw [ecls, List.flatMap_append, List.flatMap_cons]
        have eV : (cls.flatMap cWords).map nV = (pre.flatMap cWords).map nV ++ nV (cNum c) :: ((cArgs c).map nV ++ ((cTail c).map nV ++ (post.flatMap cWords).map nV)) := by
          rw [eW2, List.map_append, List.map_append]
          unfold cWords
          rw [List.map_cons, List.map_append, List.cons_append, List.append_assoc]
        have eV2 : (cls.flatMap cWords).map nV = ((pre.flatMap cWords).map nV ++ [nV (cNum c)]) ++ ((cArgs c).map nV ++ ((cTail c).map nV ++ (post.flatMap cWords).map nV)) := by
          rw [eV, List.append_assoc]
          rfl
        have lw : (cWords c).length = 1 + (cArgs c).length + (cTail c).length := by
          unfold cWords
          rw [List.length_cons, List.length_append]
          omega
        have lall : (cls.flatMap cWords).length = (pre.flatMap cWords).length + ((cWords c).length + (post.flatMap cWords).length) := by
          rw [eW2, List.length_append, List.length_append]
        have big : (PyFlat.told (outs Ut14.init pre)).length + (1 + (Ut14.step (behind Ut14.init pre) c).2.length) ≤ 10000000 := by
          have e : PyFlat.told (outs Ut14.init cls) = PyFlat.told (outs Ut14.init pre) ++ ((((Ut14.step (behind Ut14.init pre) c).2.length : Nat) : Int) :: ((Ut14.step (behind Ut14.init pre) c).2 ++ PyFlat.told (outs (Ut14.step (behind Ut14.init pre) c).1 post))) := by
            rw [ecls, outs_append, told_append]
            rfl
          rw [e, List.length_append, List.length_cons, List.length_append] at ebig
          omega
        have zl : sizeLine = 16777216 := sizeLine_eq
        refine if_true_of (decide_eq_true (by omega)) ?_
        -- the last three rows of a turn
        have fin : ∀ (H7 : Hp) (nb rb : Addr) (z7 : Int) (v5 : Option V) (D : Ends), Same H' H7 → H7 nb = some (.lst ((cArgs c).map nV)) → H7 rb = some (.lst (((cRow c).getD []).map nV)) → z7 = ((((pre ++ [c]).flatMap cWords).length : Nat) : Int) →
            D.nx = (fun σ' H'' => (∃ (pre post : List Ut14.Call) (ro : Addr → Rl) (v4 v5 v6 v7 v8 : Option V), cls = pre ++ post ∧ σ' = [some (.ref a), some (.ref L.a), some (.ref tl), some (nV (pre.flatMap cWords).length), v4, v5, v6, v7, v8] ∧
              At C CP L ro H'' (behind Ut14.init pre) ∧ H'' tl = some (.lst ((PyFlat.told (outs Ut14.init pre)).map V.int)) ∧ ro tl = .oth ∧ SqL K H'' a ((cls.flatMap cWords).map nV) ∧ (∀ o, H a = some o → H'' a = some o ∧ ro a = .oth)) ∧ muA (cls.flatMap cWords).length σ' < muA (cls.flatMap cWords).length [some (.ref a), some (.ref L.a), some (.ref tl), some (nV (pre.flatMap cWords).length), v4, v5, v6, v7, v8]) →
            (tSeq (tAsg (tCall (spAnsOf C CP) [] E0 (tCons (tVar 1) (tCons (tVar 4) (tCons (tVar 6) (tCons (tVar 7) tNil))))) (gName 8))
              (tSeq (tDrop (tBM K "list" rAppend (tVar 2) (tCons (tCB (fun xs H Q => ∃ p ys, xs = [V.ref p] ∧ (SqL K H p ys ∨ SqT K H p ys) ∧ Q (.int ys.length) H) (tCons (tVar 8) tNil)) tNil))) (tDrop (tBM K "list" rExtend (tVar 2) (tCons (tVar 8) tNil)))))
              D [some (.ref a), some (.ref L.a), some (.ref tl), some (.int z7), some (nV (cNum c)), v5, some (.ref nb), some (.ref rb), v8] H7 := by
          intro H7 nb rb z7 v5' D s7 hnb hrb en eD
          refine ⟨_, rfl, _, rfl, _, rfl, _, rfl, L, ro, _, 6 * pre.length, c, nb, rb, rfl, hnb, hrb, fc, hA.same s7, okg, oko_behind pre OkO.init, by omega, fun ro' H8 p np hp rp hA8 fr8 => ?_⟩
          have ht7 := s7 _ _ ht
          obtain ⟨ht8, rt8⟩ := fr8 _ _ ht7 rt
          have npt : p ≠ tl := fun z => by rw [z, ht7] at np; cases np
          refine ⟨_, rfl, .inl ⟨rfl, _, SqL.of ht8⟩, _, rfl, p, _, rfl, .inl (SqL.of hp), tl, _, _, rfl, rfl, ht8, by rw [List.length_map]; omega, ?_⟩
          have hA9 := hA8.other (o := .lst ((PyFlat.told (outs Ut14.init pre)).map V.int ++ [V.int (((Ut14.step (behind Ut14.init pre) c).2.map V.int).length : Nat)])) ht8 trivial rt8
          refine ⟨_, rfl, .inl ⟨rfl, _, SqL.of upd_same⟩, _, rfl, tl, p, _, _, rfl, rfl, upd_same, by rw [upd_ne npt]; exact hp, by rw [List.length_append, List.length_map, List.length_map, List.length_singleton]; omega, ?_⟩
          rw [upd_upd, eD]
          have anew : ∀ o, H a = some o → a ≠ tl := fun o e => ne_of_none (s1 _ _ e) htl
          have keepA : ∀ o, H a = some o → upd H8 tl (.lst ((PyFlat.told (outs Ut14.init pre)).map V.int ++ [V.int (((Ut14.step (behind Ut14.init pre) c).2.map V.int).length : Nat)] ++ (Ut14.step (behind Ut14.init pre) c).2.map V.int)) a = some o ∧ ro' a = .oth := fun o e => by
            obtain ⟨e1, e2⟩ := hO o e
            obtain ⟨e3, e4⟩ := fr8 _ _ (s7 _ _ e1) e2
            rw [upd_ne (anew o e)]
            exact ⟨e3, e4⟩
          refine ⟨⟨pre ++ [c], post, ro', _, _, _, _, _, by rw [ecls, List.append_assoc]; rfl, by rw [en]; rfl, ?_, ?_, rt8, SqL.stay hS fun o e => (keepA o e).1, keepA⟩, ?_⟩
          · rw [behind_snoc]
            exact hA8.other ht8 trivial rt8
          · rw [upd_same, outs_snoc, told_append, List.map_append]
            have e2 : PyFlat.told [(Ut14.step (behind Ut14.init pre) c).2] = (((Ut14.step (behind Ut14.init pre) c).2.length : Nat) : Int) :: ((Ut14.step (behind Ut14.init pre) c).2 ++ []) := rfl
            rw [e2, List.append_nil, List.map_cons, List.length_map, List.append_assoc]
            rfl
          · show (cls.flatMap cWords).length - z7.toNat < (cls.flatMap cWords).length - (((pre.flatMap cWords).length : Nat) : Int).toNat
            rw [en, List.flatMap_append, List.length_append]
            have : ([c].flatMap cWords).length = (cWords c).length := by
              rw [List.flatMap_cons, List.flatMap_nil, List.append_nil]
            rw [Int.toNat_natCast, Int.toNat_natCast]
            omega
        have ln1 : ((pre ++ [c]).flatMap cWords).length = (pre.flatMap cWords).length + (cWords c).length := by
          rw [List.flatMap_append, List.length_append, List.flatMap_cons, List.flatMap_nil, List.append_nil]
        -- call = calls[at]
        refine ⟨_, rfl, _, rfl, a, _, _, nV (cNum c), rfl, rfl, hS', by rw [eV]; exact at_mid (by rw [List.length_map]), ?_⟩
        -- row_at
        refine ⟨_, rfl, _, _, rfl, rfl, _, rfl, aw, _, _, nV (cArgs c).length, rfl, rfl, hw _, atI_nat (by rw [List.getElem?_map, hWN c]; rfl), _, _, rfl, rfl, ?_⟩
        -- numbers
        refine ⟨_, rfl, _, rfl, _, _, rfl, rfl, _, rfl, _, rfl, _, rfl, a, _, rfl, hS', fun nb hnb => ?_⟩
        have la : ((pre.flatMap cWords).map nV ++ [nV (cNum c)]).length = (pre.flatMap cWords).length + 1 := by
          rw [List.length_append, List.length_map, List.length_singleton]
        have cut1 : cutV ((cls.flatMap cWords).map nV) (some (((pre.flatMap cWords).length : Nat) + 1 : Int)) (some (((pre.flatMap cWords).length : Nat) + 1 + ((cArgs c).length : Nat) : Int)) = (cArgs c).map nV := by
          rw [eV2]
          exact cut_mid (by rw [la]; omega) (by rw [la, List.length_map]; omega)
        rw [cut1]
        -- row = []; at = row_at
        refine ⟨by decide, fun rb hrb => ?_⟩
        refine ⟨_, rfl, ?_⟩
        have s6 : Same H' (upd (upd H' nb (.lst ((cArgs c).map nV))) rb (.lst [])) := (upd_new hnb).trans (upd_new hrb)
        have hnb6 : upd (upd H' nb (.lst ((cArgs c).map nV))) rb (.lst []) nb = some (.lst ((cArgs c).map nV)) := upd_new hrb _ _ upd_same
        have hrb6 : upd (upd H' nb (.lst ((cArgs c).map nV))) rb (.lst []) rb = some (.lst []) := upd_same
        generalize upd (upd H' nb (.lst ((cArgs c).map nV))) rb (.lst []) = H6 at s6 hnb6 hrb6
        refine ⟨_, rfl, ac, _, rfl, .inr (hcw _), rfl, rfl, _, rfl, ?_⟩
        show if inV (nV (cNum c)) [nV 3, nV 4] = true then _ else _
        rw [in_rows c]
        have lt := lw
        unfold cTail at lt
        cases er : cRow c with
        | none =>
          rw [er] at lt
          refine if_false_of (by rfl) ?_
          exact fin H6 nb rb _ _ _ s6 hnb6 (by rw [er]; exact hrb6) (by rw [ln1, lt, List.length_nil]; omega) rfl
        | some r =>
          rw [er] at lt
          have lt : (cWords c).length = 1 + (cArgs c).length + (1 + r.length) := by
            rw [lt, List.length_cons]
            omega
          have et : (cTail c).map nV = nV r.length :: r.map nV := by
            unfold cTail
            rw [er]
            rfl
          have hS6 := s6.seq hS'
          refine if_true_of (by rfl) ?_
          have eV3 : (cls.flatMap cWords).map nV = ((pre.flatMap cWords).map nV ++ [nV (cNum c)] ++ (cArgs c).map nV) ++ nV r.length :: (r.map nV ++ (post.flatMap cWords).map nV) := by
            rw [eV2, et, List.append_assoc ((pre.flatMap cWords).map nV ++ [nV (cNum c)])]
            rfl
          have eV4 : (cls.flatMap cWords).map nV = ((pre.flatMap cWords).map nV ++ [nV (cNum c)] ++ (cArgs c).map nV ++ [nV r.length]) ++ (r.map nV ++ (post.flatMap cWords).map nV) := by
            rw [eV3, List.append_assoc _ [nV r.length]]
            rfl
          have l3 : ((pre.flatMap cWords).map nV ++ [nV (cNum c)] ++ (cArgs c).map nV).length = (pre.flatMap cWords).length + 1 + (cArgs c).length := by
            rw [List.length_append, la, List.length_map]
          have l4 : ((pre.flatMap cWords).map nV ++ [nV (cNum c)] ++ (cArgs c).map nV ++ [nV r.length]).length = (pre.flatMap cWords).length + 1 + (cArgs c).length + 1 := by
            rw [List.length_append, l3, List.length_singleton]
          refine ⟨_, rfl, _, _, rfl, rfl, _, rfl, _, rfl, a, _, _, nV r.length, rfl, rfl, hS6, by rw [eV3]; exact at_mid (by rw [l3]; omega), _, _, rfl, rfl, ?_⟩
          refine ⟨_, rfl, _, rfl, _, _, rfl, rfl, _, rfl, _, rfl, _, rfl, a, _, rfl, hS6, fun rb2 hrb2 => ?_⟩
          have cut2 : cutV ((cls.flatMap cWords).map nV) (some (((pre.flatMap cWords).length : Nat) + 1 + ((cArgs c).length : Nat) + 1 : Int)) (some (((pre.flatMap cWords).length : Nat) + 1 + ((cArgs c).length : Nat) + 1 + (r.length : Nat) : Int)) = r.map nV := by
            rw [eV4]
            exact cut_mid (by rw [l4]; omega) (by rw [l4, List.length_map]; omega)
          rw [cut2]
          exact fin _ nb rb2 _ _ _ (s6.trans (upd_new hrb2)) (upd_new hrb2 _ _ hnb6) (by rw [er]; exact upd_same) (by rw [ln1, lt]; omega) rfl
    · intro σ H Q Q' hq h
      obtain ⟨v, e, v0, e0, p, ys, e1, hs, i, j, e2, e3, k, e4, q⟩ := h
      exact ⟨v, e, v0, e0, p, ys, e1, hs, i, j, e2, e3, k, e4, hq _ _ q⟩
end
end Tof

namespace Tof
open PySem PySem.Spec PyProof.Rows L2
abbrev sAnsOf : Stmt := top 40
abbrev sTold : Stmt := top 41
theorem Ans.mono {C CP : Addr} {L : Lay} {ro : Addr → Rl} {H H1 : Hp} {g : Ut14.House} {c : Ut14.Call} {Q : VK} (h : Ans C CP L ro H g c Q) (s : Same H H1) : Ans C CP L ro H1 g c Q :=
  fun ro' H' p np hp rp hA fr => h ro' H' p (s.free np) hp rp hA fun b o e r => fr b o (s b o e) r
theorem flat_nV (l : List (Nat × Nat)) : (flatN l).map nV = flat l := by
  unfold flatN flat
  rw [List.map_flatMap]
  rfl
theorem flatN_len (l : List (Nat × Nat)) : (flatN l).length = 2 * l.length := by
  have e := congrArg List.length (flat_nV l)
  rw [List.length_map, flat_len] at e
  exact e
section
variable {P : Program} {w : World} {K : PySem.W.Frag} {mg : Str → Option Value} {base : Heap} {C CP : Addr}
/-! ### told_by -/
def spTold (C CP : Addr) : Sp := fun vs H Q _ => ∃ (L : Lay) (ro : Addr → Rl) (g : Ut14.House) (N : Nat) (c : Ut14.Call) (nb : Addr), vs = [.ref L.a, nV (cNum c), .ref nb] ∧ H nb = some (.lst ((cArgs c).map nV)) ∧ 7 ≤ cNum c ∧
  At C CP L ro H g ∧ Ok N g ∧ OkO g ∧ N ≤ 900 ∧ Ans C CP L ro H g c Q
theorem scTold : FnScope ["records", "call", "numbers"] ["records", "call", "numbers"] (defScope sTold) := ⟨rfl, rfl, rfl, by decide +kernel, rfl, by decide +kernel, by decide +kernel⟩
theorem ok_told {f : Addr} {fd : FuncData} (F : Fun K "told_by" "told_by" sTold f fd) (T : Txt K mg C CP) (ML : MCal P w K mg base C "look_up" 1 ["self", "number", "key"] (spLook C CP)) (MW : MCal P w K mg base C "list_now" 3 ["self", "tongue"] (spNow C CP)) (MD : MCal P w K mg base C "list_todo" 3 ["self", "tongue"] (spTodo C CP)) (MO : MCal P w K mg base C "make_offer" 3 ["self", "tongue", "key"] (spOffer C CP)) (MU : MCal P w K mg base C "list_unsettled" 2 ["self", "tongue"] (spUnset C CP)) (MX : MCal P w K mg base C "list_changed" 1 ["self", "number", "another"] (spChanged C CP)) (MH : MCal P w K mg base C "how_it_stands" 1 ["self"] (spStands C CP)) :
    FnOk P w K mg base CX0 4 f fd ["records", "call", "numbers"] (spTold C CP) := by
  obtain ⟨fL, fdL, mL, FL, bL⟩ := ML
  obtain ⟨fW, fdW, mW, FW, bW⟩ := MW
  obtain ⟨fD, fdD, mD, FD, bD⟩ := MD
  obtain ⟨fO, fdO, mO, FO, bO⟩ := MO
  obtain ⟨fU, fdU, mU, FU, bU⟩ := MU
  obtain ⟨fX, fdX, mX, FX, bX⟩ := MX
  obtain ⟨fH, fdH, mH, FH, bH⟩ := MH
  refine F.ok scTold (fun vs H Q E h => ?_) (fun cdv A outer s H vs Q E hr h => ⟨_, (pss_cons (ps_if (pt_cmpR op_eq (pv 1) (pe_gi T.LOOK) (nomark _)) (pss_one (ps_ret (pe_meth (pv 0) T.cl mL FL (hr.mono (by decide)) bL .nil pass0 (pa_cons (pe_ix ix_list (pv 2) pe_int (fun _ _ => rfl)) (pa_cons (pe_ix ix_list (pv 2) pe_int (fun _ _ => rfl)) pa_nil))))) pss_nil)
    (pss_cons (ps_if (pt_cmpR op_eq (pv 1) (pe_gi T.NOW) (nomark _)) (pss_one (ps_ret (pe_meth (pv 0) T.cl mW FW (hr.mono (by decide)) bW .nil pass0 (pa_cons (pe_ix ix_list (pv 2) pe_int (fun _ _ => rfl)) pa_nil)))) pss_nil)
    (pss_cons (ps_if (pt_cmpR op_eq (pv 1) (pe_gi T.TODO) (nomark _)) (pss_one (ps_ret (pe_meth (pv 0) T.cl mD FD (hr.mono (by decide)) bD .nil pass0 (pa_cons (pe_ix ix_list (pv 2) pe_int (fun _ _ => rfl)) pa_nil)))) pss_nil)
    (pss_cons (ps_if (pt_cmpR op_eq (pv 1) (pe_gi T.OFFER) (nomark _)) (pss_one (ps_ret (pe_meth (pv 0) T.cl mO FO (hr.mono (by decide)) bO .nil pass0 (pa_cons (pe_ix ix_list (pv 2) pe_int (fun _ _ => rfl)) (pa_cons (pe_ix ix_list (pv 2) pe_int (fun _ _ => rfl)) pa_nil))))) pss_nil)
    (pss_cons (ps_if (pt_cmpR op_eq (pv 1) (pe_gi T.STILL_OPEN) (nomark _)) (pss_one (ps_ret (pe_meth (pv 0) T.cl mU FU (hr.mono (by decide)) bU .nil pass0 (pa_cons (pe_ix ix_list (pv 2) pe_int (fun _ _ => rfl)) pa_nil)))) pss_nil)
    (pss_cons (ps_if (pt_cmpR op_eq (pv 1) (pe_gi T.CHANGED) (nomark _)) (pss_one (ps_ret (pe_meth (pv 0) T.cl mX FX (hr.mono (by decide)) bX .nil pass0 (pa_cons (pe_ix ix_list (pv 2) pe_int (fun _ _ => rfl)) (pa_cons (pe_ix ix_list (pv 2) pe_int (fun _ _ => rfl)) pa_nil))))) pss_nil)
    (pss_one (ps_ret (pe_meth0 (pv 0) T.cl mH FH (hr.mono (by decide)) bH .nil pass0))))))))), ?_⟩)
  · obtain ⟨L, ro, g, N, c, nb, rfl, _⟩ := h
    rfl
  · obtain ⟨L, ro, g, N, c, nb, rfl, hnb, h7, hA, hO, hOO, n9, q⟩ := h
    cases c with
    | text k x => exact absurd (show 7 ≤ 0 from h7) (by decide)
    | gone k => exact absurd (show 7 ≤ 1 from h7) (by decide)
    | translate t k n => exact absurd (show 7 ≤ 2 from h7) (by decide)
    | send t l => exact absurd (show 7 ≤ 3 from h7) (by decide)
    | back p l => exact absurd (show 7 ≤ 4 from h7) (by decide)
    | choose t k x b => exact absurd (show 7 ≤ 5 from h7) (by decide)
    | release t => exact absurd (show 7 ≤ 6 from h7) (by decide)
    | look r k =>
      refine ⟨_, rfl, rfl, _, rfl, if_true_of (by rfl) ?_⟩
      exact ⟨_, rfl, L.a, L.dx, _, rfl, hA.hA, rF_none (by decide +kernel), _, rfl, nb, _, _, nV r, rfl, rfl, SqL.of hnb, rfl, _, rfl, nb, _, _, nV k, rfl, rfl, SqL.of hnb, rfl, L, ro, g, N, r, k, rfl, hA, hO, q⟩
    | now t =>
      refine ⟨_, rfl, rfl, _, rfl, if_false_of (by rfl) ?_⟩
      refine ⟨_, rfl, rfl, _, rfl, if_true_of (by rfl) ?_⟩
      exact ⟨_, rfl, L.a, L.dx, _, rfl, hA.hA, rF_none (by decide +kernel), _, rfl, nb, _, _, nV t, rfl, rfl, SqL.of hnb, rfl, L, ro, g, N, t, rfl, hA, hO, q⟩
    | todo t =>
      refine ⟨_, rfl, rfl, _, rfl, if_false_of (by rfl) ?_⟩
      refine ⟨_, rfl, rfl, _, rfl, if_false_of (by rfl) ?_⟩
      refine ⟨_, rfl, rfl, _, rfl, if_true_of (by rfl) ?_⟩
      exact ⟨_, rfl, L.a, L.dx, _, rfl, hA.hA, rF_none (by decide +kernel), _, rfl, nb, _, _, nV t, rfl, rfl, SqL.of hnb, rfl, L, ro, g, N, t, rfl, hA, hO, q⟩
    | offer t k =>
      refine ⟨_, rfl, rfl, _, rfl, if_false_of (by rfl) ?_⟩
      refine ⟨_, rfl, rfl, _, rfl, if_false_of (by rfl) ?_⟩
      refine ⟨_, rfl, rfl, _, rfl, if_false_of (by rfl) ?_⟩
      refine ⟨_, rfl, rfl, _, rfl, if_true_of (by rfl) ?_⟩
      exact ⟨_, rfl, L.a, L.dx, _, rfl, hA.hA, rF_none (by decide +kernel), _, rfl, nb, _, _, nV t, rfl, rfl, SqL.of hnb, rfl, _, rfl, nb, _, _, nV k, rfl, rfl, SqL.of hnb, rfl, L, ro, g, N, t, k, rfl, hA, hO, q⟩
    | open_ t =>
      refine ⟨_, rfl, rfl, _, rfl, if_false_of (by rfl) ?_⟩
      refine ⟨_, rfl, rfl, _, rfl, if_false_of (by rfl) ?_⟩
      refine ⟨_, rfl, rfl, _, rfl, if_false_of (by rfl) ?_⟩
      refine ⟨_, rfl, rfl, _, rfl, if_false_of (by rfl) ?_⟩
      refine ⟨_, rfl, rfl, _, rfl, if_true_of (by rfl) ?_⟩
      exact ⟨_, rfl, L.a, L.dx, _, rfl, hA.hA, rF_none (by decide +kernel), _, rfl, nb, _, _, nV t, rfl, rfl, SqL.of hnb, rfl, L, ro, g, N, t, rfl, hA, hO, hOO, n9, q⟩
    | changed r s =>
      refine ⟨_, rfl, rfl, _, rfl, if_false_of (by rfl) ?_⟩
      refine ⟨_, rfl, rfl, _, rfl, if_false_of (by rfl) ?_⟩
      refine ⟨_, rfl, rfl, _, rfl, if_false_of (by rfl) ?_⟩
      refine ⟨_, rfl, rfl, _, rfl, if_false_of (by rfl) ?_⟩
      refine ⟨_, rfl, rfl, _, rfl, if_false_of (by rfl) ?_⟩
      refine ⟨_, rfl, rfl, _, rfl, if_true_of (by rfl) ?_⟩
      exact ⟨_, rfl, L.a, L.dx, _, rfl, hA.hA, rF_none (by decide +kernel), _, rfl, nb, _, _, nV r, rfl, rfl, SqL.of hnb, rfl, _, rfl, nb, _, _, nV s, rfl, rfl, SqL.of hnb, rfl, L, ro, g, N, r, s, rfl, hA, hO, q⟩
    | state =>
      refine ⟨_, rfl, rfl, _, rfl, if_false_of (by rfl) ?_⟩
      refine ⟨_, rfl, rfl, _, rfl, if_false_of (by rfl) ?_⟩
      refine ⟨_, rfl, rfl, _, rfl, if_false_of (by rfl) ?_⟩
      refine ⟨_, rfl, rfl, _, rfl, if_false_of (by rfl) ?_⟩
      refine ⟨_, rfl, rfl, _, rfl, if_false_of (by rfl) ?_⟩
      refine ⟨_, rfl, rfl, _, rfl, if_false_of (by rfl) ?_⟩
      refine ⟨_, rfl, L.a, L.dx, _, rfl, hA.hA, rF_none (by decide +kernel), L, ro, g, rfl, hA, fun p hp => ?_⟩
      exact q.done rfl hA (Fr.same (Same.refl H)) (fun b e => e) p hp
/-! ### answer_of -/
theorem scAnsOf : FnScope ["records", "call", "numbers", "row"] ["records", "call", "numbers", "row"] (defScope sAnsOf) := ⟨rfl, rfl, rfl, by decide +kernel, rfl, by decide +kernel, by decide +kernel⟩
theorem ok_ansOf {f : Addr} {fd : FuncData} (F : Fun K "answer_of" "answer_of" sAnsOf f fd) (T : Txt K mg C CP) (M0 : MCal P w K mg base C "set_text" 2 ["self", "key", "text"] (spSetText C CP)) (M1 : MCal P w K mg base C "drop_key" 2 ["self", "key"] (spDropKey C CP)) (M2 : MCal P w K mg base C "set_translation" 2 ["self", "tongue", "key", "translation"] (spSetTr C CP)) (M3 : MCal P w K mg base C "send_package" 3 ["self", "tongue", "sent"] (spSend K C CP)) (M4 : MCal P w K mg base C "take_back" 5 ["self", "number", "pairs"] (spTake C CP)) (M5 : MCal P w K mg base C "choose_one" 2 ["self", "place", "is_theirs"] (spChoose C CP)) (M6 : MCal P w K mg base C "add_release" 3 ["self", "tongue"] (spRel C CP)) (GP : GCal P w K mg base "pairs_of" 1 ["row"] (spPairs K)) (GT : GCal P w K mg base "told_by" 4 ["records", "call", "numbers"] (spTold C CP)) :
    FnOk P w K mg base CX0 6 f fd ["records", "call", "numbers", "row"] (spAnsOf C CP) := by
  obtain ⟨f0, fd0, m0, F0, b0⟩ := M0
  obtain ⟨f1, fd1, m1, F1, b1⟩ := M1
  obtain ⟨f2, fd2, m2, F2, b2⟩ := M2
  obtain ⟨f3, fd3, m3, F3, b3⟩ := M3
  obtain ⟨f4, fd4, m4, F4, b4⟩ := M4
  obtain ⟨f5, fd5, m5, F5, b5⟩ := M5
  obtain ⟨f6, fd6, m6, F6, b6⟩ := M6
  obtain ⟨fP, fdP, gP, kP, FP, bP⟩ := GP
  obtain ⟨fT, fdT, gT, kT, FT, bT⟩ := GT
  refine F.ok scAnsOf (fun vs H Q E h => ?_) (fun cdv A outer s H vs Q E hr h => ⟨_, (pss_cons (ps_if (pt_cmpR op_eq (pv 1) (pe_gi T.TEXT) (nomark _)) (pss_one (ps_ret (pe_meth (pv 0) T.cl m0 F0 (hr.mono (by decide)) b0 .nil pass0 (pa_cons (pe_ix ix_list (pv 2) pe_int (fun _ _ => rfl)) (pa_cons (pe_ix ix_list (pv 2) pe_int (fun _ _ => rfl)) pa_nil))))) pss_nil)
    (pss_cons (ps_if (pt_cmpR op_eq (pv 1) (pe_gi T.GONE) (nomark _)) (pss_one (ps_ret (pe_meth (pv 0) T.cl m1 F1 (hr.mono (by decide)) b1 .nil pass0 (pa_cons (pe_ix ix_list (pv 2) pe_int (fun _ _ => rfl)) pa_nil)))) pss_nil)
    (pss_cons (ps_if (pt_cmpR op_eq (pv 1) (pe_gi T.TRANSLATE) (nomark _)) (pss_one (ps_ret (pe_meth (pv 0) T.cl m2 F2 (hr.mono (by decide)) b2 .nil pass0 (pa_cons (pe_ix ix_list (pv 2) pe_int (fun _ _ => rfl)) (pa_cons (pe_ix ix_list (pv 2) pe_int (fun _ _ => rfl)) (pa_cons (pe_ix ix_list (pv 2) pe_int (fun _ _ => rfl)) pa_nil)))))) pss_nil)
    (pss_cons (ps_if (pt_cmpR op_eq (pv 1) (pe_gi T.SEND) (nomark _)) (pss_one (ps_ret (pe_meth (pv 0) T.cl m3 F3 (hr.mono (by decide)) b3 .nil pass0 (pa_cons (pe_ix ix_list (pv 2) pe_int (fun _ _ => rfl)) (pa_cons (pv 3) pa_nil))))) pss_nil)
    (pss_cons (ps_if (pt_cmpR op_eq (pv 1) (pe_gi T.BACK) (nomark _)) (pss_one (ps_ret (pe_meth (pv 0) T.cl m4 F4 (hr.mono (by decide)) b4 .nil pass0 (pa_cons (pe_ix ix_list (pv 2) pe_int (fun _ _ => rfl)) (pa_cons (pe_call FP (hr.mono (by decide)) rfl gP kP bP .nil pass0 (pa_cons (pv 3) pa_nil)) pa_nil))))) pss_nil)
    (pss_cons (ps_if (pt_cmpR op_eq (pv 1) (pe_gi T.CHOOSE) (nomark _)) (pss_one (ps_ret (pe_meth (pv 0) T.cl m5 F5 (hr.mono (by decide)) b5 .nil pass0 (pa_cons (pe_tup (pa_cons (pe_ix ix_list (pv 2) pe_int (fun _ _ => rfl)) (pa_cons (pe_ix ix_list (pv 2) pe_int (fun _ _ => rfl)) (pa_cons (pe_ix ix_list (pv 2) pe_int (fun _ _ => rfl)) pa_nil)))) (pa_cons (pe_ix ix_list (pv 2) pe_int (fun _ _ => rfl)) pa_nil))))) pss_nil)
    (pss_cons (ps_if (pt_cmpR op_eq (pv 1) (pe_gi T.RELEASE) (nomark _)) (pss_one (ps_ret (pe_meth (pv 0) T.cl m6 F6 (hr.mono (by decide)) b6 .nil pass0 (pa_cons (pe_ix ix_list (pv 2) pe_int (fun _ _ => rfl)) pa_nil)))) pss_nil)
    (pss_one (ps_ret (pe_call FT (hr.mono (by decide)) rfl gT kT bT .nil pass0 (pa_cons (pv 0) (pa_cons (pv 1) (pa_cons (pv 2) pa_nil))))))))))))), ?_⟩)
  · obtain ⟨L, ro, g, N, c, nb, rb, rfl, _⟩ := h
    rfl
  · obtain ⟨L, ro, g, N, c, nb, rb, rfl, hnb, hrb, hf, hA, hO, hOO, n9, q⟩ := h
    cases c with
    | text k x =>
      refine ⟨_, rfl, rfl, _, rfl, if_true_of (by rfl) ?_⟩
      exact ⟨_, rfl, L.a, L.dx, _, rfl, hA.hA, rF_none (by decide +kernel), _, rfl, nb, _, _, nV k, rfl, rfl, SqL.of hnb, rfl, _, rfl, nb, _, _, nV x, rfl, rfl, SqL.of hnb, rfl, L, ro, g, N, k, x, rfl, hA, hO, q⟩
    | gone k =>
      refine ⟨_, rfl, rfl, _, rfl, if_false_of (by rfl) ?_⟩
      refine ⟨_, rfl, rfl, _, rfl, if_true_of (by rfl) ?_⟩
      exact ⟨_, rfl, L.a, L.dx, _, rfl, hA.hA, rF_none (by decide +kernel), _, rfl, nb, _, _, nV k, rfl, rfl, SqL.of hnb, rfl, L, ro, g, N, k, rfl, hA, hO, q⟩
    | translate t k n =>
      refine ⟨_, rfl, rfl, _, rfl, if_false_of (by rfl) ?_⟩
      refine ⟨_, rfl, rfl, _, rfl, if_false_of (by rfl) ?_⟩
      refine ⟨_, rfl, rfl, _, rfl, if_true_of (by rfl) ?_⟩
      exact ⟨_, rfl, L.a, L.dx, _, rfl, hA.hA, rF_none (by decide +kernel), _, rfl, nb, _, _, nV t, rfl, rfl, SqL.of hnb, rfl, _, rfl, nb, _, _, nV k, rfl, rfl, SqL.of hnb, rfl, _, rfl, nb, _, _, nV n, rfl, rfl, SqL.of hnb, rfl, L, ro, g, N, t, k, n, rfl, hA, hO, q⟩
    | send t l =>
      refine ⟨_, rfl, rfl, _, rfl, if_false_of (by rfl) ?_⟩
      refine ⟨_, rfl, rfl, _, rfl, if_false_of (by rfl) ?_⟩
      refine ⟨_, rfl, rfl, _, rfl, if_false_of (by rfl) ?_⟩
      refine ⟨_, rfl, rfl, _, rfl, if_true_of (by rfl) ?_⟩
      exact ⟨_, rfl, L.a, L.dx, _, rfl, hA.hA, rF_none (by decide +kernel), _, rfl, nb, _, _, nV t, rfl, rfl, SqL.of hnb, rfl, _, rfl, L, ro, g, N, t, rb, l, rfl, SqL.of hrb, hA, hO, q⟩
    | back p l =>
      refine ⟨_, rfl, rfl, _, rfl, if_false_of (by rfl) ?_⟩
      refine ⟨_, rfl, rfl, _, rfl, if_false_of (by rfl) ?_⟩
      refine ⟨_, rfl, rfl, _, rfl, if_false_of (by rfl) ?_⟩
      refine ⟨_, rfl, rfl, _, rfl, if_false_of (by rfl) ?_⟩
      refine ⟨_, rfl, rfl, _, rfl, if_true_of (by rfl) ?_⟩
      have hl : (flatN l).length ≤ 20 := hf
      rw [flatN_len] at hl
      have hrb2 : H rb = some (.lst ((flatN l).map nV)) := hrb
      rw [flat_nV] at hrb2
      refine ⟨_, rfl, L.a, L.dx, _, rfl, hA.hA, rF_none (by decide +kernel), _, rfl, nb, _, _, nV p, rfl, rfl, SqL.of hnb, rfl, _, rfl, rb, l, rfl, SqL.of hrb2, by omega, fun H1 D s1 nD pr => ?_⟩
      exact ⟨L, ro, g, N, p, D, l, rfl, hA.same s1, hO, n9, pr, hA.fresh D nD, by omega, q.mono s1⟩
    | choose t k x th =>
      refine ⟨_, rfl, rfl, _, rfl, if_false_of (by rfl) ?_⟩
      refine ⟨_, rfl, rfl, _, rfl, if_false_of (by rfl) ?_⟩
      refine ⟨_, rfl, rfl, _, rfl, if_false_of (by rfl) ?_⟩
      refine ⟨_, rfl, rfl, _, rfl, if_false_of (by rfl) ?_⟩
      refine ⟨_, rfl, rfl, _, rfl, if_false_of (by rfl) ?_⟩
      refine ⟨_, rfl, rfl, _, rfl, if_true_of (by rfl) ?_⟩
      refine ⟨_, rfl, L.a, L.dx, _, rfl, hA.hA, rF_none (by decide +kernel), _, rfl, nb, _, _, nV t, rfl, rfl, SqL.of hnb, rfl, _, rfl, nb, _, _, nV k, rfl, rfl, SqL.of hnb, rfl, _, rfl, nb, _, _, nV x, rfl, rfl, SqL.of hnb, rfl, by show 3 ≤ sizeLine; decide, fun b hb => ?_⟩
      have s1 := upd_new (o := .tup [nV t, nV k, nV x]) hb
      have hnb1 := s1 _ _ hnb
      exact ⟨_, rfl, nb, _, _, nV (Ut14.bit th), rfl, rfl, SqL.of hnb1, rfl, L, ro, g, N, t, k, x, b, th, rfl, upd_same, hA.same s1, hO, q.mono s1⟩
    | release t =>
      refine ⟨_, rfl, rfl, _, rfl, if_false_of (by rfl) ?_⟩
      refine ⟨_, rfl, rfl, _, rfl, if_false_of (by rfl) ?_⟩
      refine ⟨_, rfl, rfl, _, rfl, if_false_of (by rfl) ?_⟩
      refine ⟨_, rfl, rfl, _, rfl, if_false_of (by rfl) ?_⟩
      refine ⟨_, rfl, rfl, _, rfl, if_false_of (by rfl) ?_⟩
      refine ⟨_, rfl, rfl, _, rfl, if_false_of (by rfl) ?_⟩
      refine ⟨_, rfl, rfl, _, rfl, if_true_of (by rfl) ?_⟩
      exact ⟨_, rfl, L.a, L.dx, _, rfl, hA.hA, rF_none (by decide +kernel), _, rfl, nb, _, _, nV t, rfl, rfl, SqL.of hnb, rfl, L, ro, g, N, t, rfl, hA, hO, q⟩
    | look r k =>
      refine ⟨_, rfl, rfl, _, rfl, if_false_of (by rfl) ?_⟩
      refine ⟨_, rfl, rfl, _, rfl, if_false_of (by rfl) ?_⟩
      refine ⟨_, rfl, rfl, _, rfl, if_false_of (by rfl) ?_⟩
      refine ⟨_, rfl, rfl, _, rfl, if_false_of (by rfl) ?_⟩
      refine ⟨_, rfl, rfl, _, rfl, if_false_of (by rfl) ?_⟩
      refine ⟨_, rfl, rfl, _, rfl, if_false_of (by rfl) ?_⟩
      refine ⟨_, rfl, rfl, _, rfl, if_false_of (by rfl) ?_⟩
      exact ⟨_, rfl, _, rfl, _, rfl, L, ro, g, N, _, nb, rfl, hnb, (show 7 ≤ 7 by decide), hA, hO, hOO, n9, q⟩
    | now t =>
      refine ⟨_, rfl, rfl, _, rfl, if_false_of (by rfl) ?_⟩
      refine ⟨_, rfl, rfl, _, rfl, if_false_of (by rfl) ?_⟩
      refine ⟨_, rfl, rfl, _, rfl, if_false_of (by rfl) ?_⟩
      refine ⟨_, rfl, rfl, _, rfl, if_false_of (by rfl) ?_⟩
      refine ⟨_, rfl, rfl, _, rfl, if_false_of (by rfl) ?_⟩
      refine ⟨_, rfl, rfl, _, rfl, if_false_of (by rfl) ?_⟩
      refine ⟨_, rfl, rfl, _, rfl, if_false_of (by rfl) ?_⟩
      exact ⟨_, rfl, _, rfl, _, rfl, L, ro, g, N, _, nb, rfl, hnb, (show 7 ≤ 8 by decide), hA, hO, hOO, n9, q⟩
    | todo t =>
      refine ⟨_, rfl, rfl, _, rfl, if_false_of (by rfl) ?_⟩
      refine ⟨_, rfl, rfl, _, rfl, if_false_of (by rfl) ?_⟩
      refine ⟨_, rfl, rfl, _, rfl, if_false_of (by rfl) ?_⟩
      refine ⟨_, rfl, rfl, _, rfl, if_false_of (by rfl) ?_⟩
      refine ⟨_, rfl, rfl, _, rfl, if_false_of (by rfl) ?_⟩
      refine ⟨_, rfl, rfl, _, rfl, if_false_of (by rfl) ?_⟩
      refine ⟨_, rfl, rfl, _, rfl, if_false_of (by rfl) ?_⟩
      exact ⟨_, rfl, _, rfl, _, rfl, L, ro, g, N, _, nb, rfl, hnb, (show 7 ≤ 9 by decide), hA, hO, hOO, n9, q⟩
    | offer t k =>
      refine ⟨_, rfl, rfl, _, rfl, if_false_of (by rfl) ?_⟩
      refine ⟨_, rfl, rfl, _, rfl, if_false_of (by rfl) ?_⟩
      refine ⟨_, rfl, rfl, _, rfl, if_false_of (by rfl) ?_⟩
      refine ⟨_, rfl, rfl, _, rfl, if_false_of (by rfl) ?_⟩
      refine ⟨_, rfl, rfl, _, rfl, if_false_of (by rfl) ?_⟩
      refine ⟨_, rfl, rfl, _, rfl, if_false_of (by rfl) ?_⟩
      refine ⟨_, rfl, rfl, _, rfl, if_false_of (by rfl) ?_⟩
      exact ⟨_, rfl, _, rfl, _, rfl, L, ro, g, N, _, nb, rfl, hnb, (show 7 ≤ 10 by decide), hA, hO, hOO, n9, q⟩
    | open_ t =>
      refine ⟨_, rfl, rfl, _, rfl, if_false_of (by rfl) ?_⟩
      refine ⟨_, rfl, rfl, _, rfl, if_false_of (by rfl) ?_⟩
      refine ⟨_, rfl, rfl, _, rfl, if_false_of (by rfl) ?_⟩
      refine ⟨_, rfl, rfl, _, rfl, if_false_of (by rfl) ?_⟩
      refine ⟨_, rfl, rfl, _, rfl, if_false_of (by rfl) ?_⟩
      refine ⟨_, rfl, rfl, _, rfl, if_false_of (by rfl) ?_⟩
      refine ⟨_, rfl, rfl, _, rfl, if_false_of (by rfl) ?_⟩
      exact ⟨_, rfl, _, rfl, _, rfl, L, ro, g, N, _, nb, rfl, hnb, (show 7 ≤ 11 by decide), hA, hO, hOO, n9, q⟩
    | changed r s =>
      refine ⟨_, rfl, rfl, _, rfl, if_false_of (by rfl) ?_⟩
      refine ⟨_, rfl, rfl, _, rfl, if_false_of (by rfl) ?_⟩
      refine ⟨_, rfl, rfl, _, rfl, if_false_of (by rfl) ?_⟩
      refine ⟨_, rfl, rfl, _, rfl, if_false_of (by rfl) ?_⟩
      refine ⟨_, rfl, rfl, _, rfl, if_false_of (by rfl) ?_⟩
      refine ⟨_, rfl, rfl, _, rfl, if_false_of (by rfl) ?_⟩
      refine ⟨_, rfl, rfl, _, rfl, if_false_of (by rfl) ?_⟩
      exact ⟨_, rfl, _, rfl, _, rfl, L, ro, g, N, _, nb, rfl, hnb, (show 7 ≤ 12 by decide), hA, hO, hOO, n9, q⟩
    | state =>
      refine ⟨_, rfl, rfl, _, rfl, if_false_of (by rfl) ?_⟩
      refine ⟨_, rfl, rfl, _, rfl, if_false_of (by rfl) ?_⟩
      refine ⟨_, rfl, rfl, _, rfl, if_false_of (by rfl) ?_⟩
      refine ⟨_, rfl, rfl, _, rfl, if_false_of (by rfl) ?_⟩
      refine ⟨_, rfl, rfl, _, rfl, if_false_of (by rfl) ?_⟩
      refine ⟨_, rfl, rfl, _, rfl, if_false_of (by rfl) ?_⟩
      refine ⟨_, rfl, rfl, _, rfl, if_false_of (by rfl) ?_⟩
      exact ⟨_, rfl, _, rfl, _, rfl, L, ro, g, N, _, nb, rfl, hnb, (show 7 ≤ 13 by decide), hA, hO, hOO, n9, q⟩
end
end Tof

namespace Tof
open PySem PySem.Spec PyProof.Rows L2
/-- a method as the top has written it; a def -/
def MF (K : PySem.W.Frag) (C : Addr) (m qual : Str) (st : Stmt) : Prop := ∃ (f : Addr) (fd : FuncData), Meth K C m f ∧ Fun K m qual st f fd
def GF (K : PySem.W.Frag) (x : Str) (st : Stmt) : Prop := ∃ (f : Addr) (fd : FuncData), PySem.W.nsIn K mainGlobals x = some (some (.ref f)) ∧ PySem.W.keepIn K (.ref f) = true ∧ Fun K x x st f fd
theorem mf_mk {K : PySem.W.Frag} {C f : Addr} {m qual : Str} {st : Stmt} {oc kV dc pm cd ct : Value} {od an : Option Addr} {sl : Array (Option Value)} (a : PySem.W.findIn K (.ref C) m = some (some (.ref f))) (i : PySem.W.isFn K (.ref f) = true)
    (l : K.lookup f = some ⟨oc, od, .func (PySem.W.fnOf m qual (defArgs st) (defBody st) (defScope st) .none kV dc pm an cd ct), sl⟩) (c : PySem.W.codeIn K cd qual = true) (k : PySem.W.keepIn K (.ref f) = true) : MF K C m qual st := ⟨f, _, ⟨a, i, k⟩, fun_mk l c k⟩
theorem gf_mk {K : PySem.W.Frag} {f : Addr} {x : Str} {st : Stmt} {oc kV dc pm cd ct : Value} {od an : Option Addr} {sl : Array (Option Value)} (a : PySem.W.nsIn K mainGlobals x = some (some (.ref f)))
    (l : K.lookup f = some ⟨oc, od, .func (PySem.W.fnOf x x (defArgs st) (defBody st) (defScope st) .none kV dc pm an cd ct), sl⟩) (c : PySem.W.codeIn K cd x = true) (k : PySem.W.keepIn K (.ref f) = true) : GF K x st := ⟨f, _, a, k, fun_mk l c k⟩
def IF (K : PySem.W.Frag) (x : Str) (i : Int) : Prop := ∃ t, PySem.W.nsIn K mainGlobals x = some (some (.int i t))
theorem if_mk {K : PySem.W.Frag} {x : Str} {i : Int} {t : Tok} (h : PySem.W.nsIn K mainGlobals x = some (some (.int i t))) : IF K x i := ⟨t, h⟩
structure ClsF (K : PySem.W.Frag) (C : Addr) : Prop where
  cl : Cls K C
  ma : PySem.W.makesIn K C = true
  kc : PySem.W.keepIn K (.ref C) = true
def TF (K : PySem.W.Frag) (x : Str) (l : List Nat) : Prop := ∃ a, PySem.W.nsIn K mainGlobals x = some (some (.ref a)) ∧ ∀ H : Hp, SqT K H a (l.map nV)
theorem tf_mk14 {K : PySem.W.Frag} {x : Str} {a : Addr} {i0 i1 i2 i3 i4 i5 i6 i7 i8 i9 i10 i11 i12 i13 : Int} {t0 t1 t2 t3 t4 t5 t6 t7 t8 t9 t10 t11 t12 t13 : Tok} {od : Option Addr} {n : Nat} {sl : Array (Option Value)} (h : PySem.W.nsIn K mainGlobals x = some (some (.ref a))) (l : K.lookup a = some ⟨.type "tuple", od, .seq #[.int i0 t0, .int i1 t1, .int i2 t2, .int i3 t3, .int i4 t4, .int i5 t5, .int i6 t6, .int i7 t7, .int i8 t8, .int i9 t9, .int i10 t10, .int i11 t11, .int i12 t12, .int i13 t13] n, sl⟩) (ns : List Nat) (hs : ([i0, i1, i2, i3, i4, i5, i6, i7, i8, i9, i10, i11, i12, i13] : List Int) = ns.map fun (n : Nat) => (n : Int)) : TF K x ns := by
  refine ⟨a, h, fun H => .inr ⟨_, _, n, l, rfl, rfl, by show 14 ≤ sizeLine; decide, ?_⟩⟩
  have e : ns.map nV = ([i0, i1, i2, i3, i4, i5, i6, i7, i8, i9, i10, i11, i12, i13] : List Int).map V.int := by
    rw [hs, List.map_map]
    rfl
  rw [e]
  exact .cons ⟨_, rfl⟩ (.cons ⟨_, rfl⟩ (.cons ⟨_, rfl⟩ (.cons ⟨_, rfl⟩ (.cons ⟨_, rfl⟩ (.cons ⟨_, rfl⟩ (.cons ⟨_, rfl⟩ (.cons ⟨_, rfl⟩ (.cons ⟨_, rfl⟩ (.cons ⟨_, rfl⟩ (.cons ⟨_, rfl⟩ (.cons ⟨_, rfl⟩ (.cons ⟨_, rfl⟩ (.cons ⟨_, rfl⟩ (.nil))))))))))))))
theorem tf_mk2 {K : PySem.W.Frag} {x : Str} {a : Addr} {i0 i1 : Int} {t0 t1 : Tok} {od : Option Addr} {n : Nat} {sl : Array (Option Value)} (h : PySem.W.nsIn K mainGlobals x = some (some (.ref a))) (l : K.lookup a = some ⟨.type "tuple", od, .seq #[.int i0 t0, .int i1 t1] n, sl⟩) (ns : List Nat) (hs : ([i0, i1] : List Int) = ns.map fun (n : Nat) => (n : Int)) : TF K x ns := by
  refine ⟨a, h, fun H => .inr ⟨_, _, n, l, rfl, rfl, by show 2 ≤ sizeLine; decide, ?_⟩⟩
  have e : ns.map nV = ([i0, i1] : List Int).map V.int := by
    rw [hs, List.map_map]
    rfl
  rw [e]
  exact .cons ⟨_, rfl⟩ (.cons ⟨_, rfl⟩ (.nil))
/-- all that the top has written -/
structure Tops (K : PySem.W.Frag) (CPackage CRecords : Addr) : Prop where
  aPackage : PySem.W.nsIn K mainGlobals "Package" = some (some (.ref CPackage))
  fPackage : ClsF K CPackage
  aRecords : PySem.W.nsIn K mainGlobals "Records" = some (some (.ref CRecords))
  fRecords : ClsF K CRecords
  nRecords_source : NoAttr K CRecords "source"
  nRecords_work : NoAttr K CRecords "work"
  nRecords_packages : NoAttr K CRecords "packages"
  nRecords_unsettled : NoAttr K CRecords "unsettled"
  nRecords_releases : NoAttr K CRecords "releases"
  nPackage_tongue : NoAttr K CPackage "tongue"
  nPackage_texts : NoAttr K CPackage "texts"
  nPackage_bases : NoAttr K CPackage "bases"
  b_any : PySem.W.nsIn K mainGlobals "any" = some none
  b_len : PySem.W.nsIn K mainGlobals "len" = some none
  b_list : PySem.W.nsIn K mainGlobals "list" = some none
  b_min : PySem.W.nsIn K mainGlobals "min" = some none
  b_range : PySem.W.nsIn K mainGlobals "range" = some none
  b_set : PySem.W.nsIn K mainGlobals "set" = some none
  b_sorted : PySem.W.nsIn K mainGlobals "sorted" = some none
  b_sum : PySem.W.nsIn K mainGlobals "sum" = some none
  c_NOT_AS_TOLD : IF K "NOT_AS_TOLD" (-1)
  c_MISSING : IF K "MISSING" (-2)
  c_NOT_IN_PACKAGE : IF K "NOT_IN_PACKAGE" (-3)
  c_FULL : IF K "FULL" (-5)
  c_NOT_IN_RELEASE : IF K "NOT_IN_RELEASE" (-6)
  c_LAST_KEY : IF K "LAST_KEY" (99)
  c_LAST_TEXT : IF K "LAST_TEXT" (999)
  c_LAST_TRANSLATION : IF K "LAST_TRANSLATION" (999)
  c_LAST_TONGUE : IF K "LAST_TONGUE" (3)
  c_MOST_KEYS : IF K "MOST_KEYS" (10)
  c_MOST_WORK : IF K "MOST_WORK" (60)
  c_MOST_PACKAGES : IF K "MOST_PACKAGES" (10)
  c_MOST_IN_PACKAGE : IF K "MOST_IN_PACKAGE" (6)
  c_MOST_RELEASES : IF K "MOST_RELEASES" (12)
  c_ALREADY_THERE : IF K "ALREADY_THERE" (0)
  c_AS_SENT : IF K "AS_SENT" (1)
  c_TAKEN : IF K "TAKEN" (2)
  c_LEFT_TO_CHOOSE : IF K "LEFT_TO_CHOOSE" (3)
  c_TEXT : IF K "TEXT" (0)
  c_GONE : IF K "GONE" (1)
  c_TRANSLATE : IF K "TRANSLATE" (2)
  c_SEND : IF K "SEND" (3)
  c_BACK : IF K "BACK" (4)
  c_CHOOSE : IF K "CHOOSE" (5)
  c_RELEASE : IF K "RELEASE" (6)
  c_LOOK : IF K "LOOK" (7)
  c_NOW : IF K "NOW" (8)
  c_TODO : IF K "TODO" (9)
  c_OFFER : IF K "OFFER" (10)
  c_STILL_OPEN : IF K "STILL_OPEN" (11)
  c_CHANGED : IF K "CHANGED" (12)
  t_WHOLE_NUMBERS : TF K "WHOLE_NUMBERS" [2, 1, 3, 1, 1, 4, 1, 2, 1, 1, 2, 1, 2, 0]
  t_CALLS_WITH_A_ROW : TF K "CALLS_WITH_A_ROW" [3, 4]
  m_Package_init : MF K CPackage "__init__" "Package.__init__" (inClass (top 19) 0)
  m_Records_init : MF K CRecords "__init__" "Records.__init__" (inClass (top 20) 0)
  m_Records_how_it_stands : MF K CRecords "how_it_stands" "Records.how_it_stands" (inClass (top 20) 1)
  m_Records_work_at : MF K CRecords "work_at" "Records.work_at" (inClass (top 20) 2)
  m_Records_put_work : MF K CRecords "put_work" "Records.put_work" (inClass (top 20) 3)
  m_Records_growth_at : MF K CRecords "growth_at" "Records.growth_at" (inClass (top 20) 4)
  m_Records_too_much_work : MF K CRecords "too_much_work" "Records.too_much_work" (inClass (top 20) 5)
  m_Records_set_text : MF K CRecords "set_text" "Records.set_text" (inClass (top 20) 6)
  m_Records_drop_key : MF K CRecords "drop_key" "Records.drop_key" (inClass (top 20) 7)
  m_Records_set_translation : MF K CRecords "set_translation" "Records.set_translation" (inClass (top 20) 8)
  m_Records_send_package : MF K CRecords "send_package" "Records.send_package" (inClass (top 20) 9)
  m_Records_take_back : MF K CRecords "take_back" "Records.take_back" (inClass (top 20) 10)
  m_Records_refusal_of_back : MF K CRecords "refusal_of_back" "Records.refusal_of_back" (inClass (top 20) 11)
  m_Records_growth_by_back : MF K CRecords "growth_by_back" "Records.growth_by_back" (inClass (top 20) 12)
  m_Records_outcome_of : MF K CRecords "outcome_of" "Records.outcome_of" (inClass (top 20) 13)
  m_Records_settle : MF K CRecords "settle" "Records.settle" (inClass (top 20) 14)
  m_Records_choose_one : MF K CRecords "choose_one" "Records.choose_one" (inClass (top 20) 15)
  m_Records_add_release : MF K CRecords "add_release" "Records.add_release" (inClass (top 20) 16)
  m_Records_shown_now : MF K CRecords "shown_now" "Records.shown_now" (inClass (top 20) 17)
  m_Records_look_up : MF K CRecords "look_up" "Records.look_up" (inClass (top 20) 18)
  m_Records_list_now : MF K CRecords "list_now" "Records.list_now" (inClass (top 20) 19)
  m_Records_list_todo : MF K CRecords "list_todo" "Records.list_todo" (inClass (top 20) 20)
  m_Records_make_offer : MF K CRecords "make_offer" "Records.make_offer" (inClass (top 20) 21)
  m_Records_offered_for : MF K CRecords "offered_for" "Records.offered_for" (inClass (top 20) 22)
  m_Records_list_unsettled : MF K CRecords "list_unsettled" "Records.list_unsettled" (inClass (top 20) 23)
  m_Records_list_changed : MF K CRecords "list_changed" "Records.list_changed" (inClass (top 20) 24)
  g_fits_a_package : GF K "fits_a_package" (top 21)
  g_sent_place : GF K "sent_place" (top 22)
  g_answers : GF K "answers" (top 39)
  g_answer_of : GF K "answer_of" (top 40)
  g_told_by : GF K "told_by" (top 41)
  g_pairs_of : GF K "pairs_of" (top 42)
theorem all_mk {P : Program} {w : World} {K : PySem.W.Frag} {h : Heap} {mg : Str → Option Value} {fa CPackage CRecords : Addr} (X : K.In h) (G : h.Ns mainGlobals mg) (hfa : mg "answers" = some (.ref fa)) (Tp : Tops K CPackage CRecords) :
    ∃ fd : FuncData, (∀ (s : Shared) (us : List Value), us.length = (["calls"] : List Str).length → BindsTo s fd ⟨us, []⟩ ((["calls"] : List Str).zip us)) ∧ ∀ base : Heap, K.In base → base.Ns mainGlobals mg → FnOk P w K mg base CX0 7 fa fd ["calls"] (spAnswers K) := by
  have gi : ∀ {x : Str} {i : Int}, IF K x i → ∃ t, mg x = some (.int i t) := fun ⟨t, e⟩ => ⟨t, PySem.W.mg_of X G e⟩
  have T : Txt K mg CRecords CPackage := {
    cl := Tp.fRecords.cl
    clP := Tp.fPackage.cl
    nS := Tp.nRecords_source
    nW := Tp.nRecords_work
    nP := Tp.nRecords_packages
    nU := Tp.nRecords_unsettled
    nR := Tp.nRecords_releases
    nTg := Tp.nPackage_tongue
    nTx := Tp.nPackage_texts
    nBs := Tp.nPackage_bases
    len := PySem.W.mg_none_of X G Tp.b_len
    set := PySem.W.mg_none_of X G Tp.b_set
    sorted := PySem.W.mg_none_of X G Tp.b_sorted
    any := PySem.W.mg_none_of X G Tp.b_any
    sum := PySem.W.mg_none_of X G Tp.b_sum
    range := PySem.W.mg_none_of X G Tp.b_range
    list := PySem.W.mg_none_of X G Tp.b_list
    min := PySem.W.mg_none_of X G Tp.b_min
    gRc := PySem.W.mg_of X G Tp.aRecords
    gPk := PySem.W.mg_of X G Tp.aPackage
    NOT_AS_TOLD := gi Tp.c_NOT_AS_TOLD
    MISSING := gi Tp.c_MISSING
    NOT_IN_PACKAGE := gi Tp.c_NOT_IN_PACKAGE
    FULL := gi Tp.c_FULL
    NOT_IN_RELEASE := gi Tp.c_NOT_IN_RELEASE
    LAST_KEY := gi Tp.c_LAST_KEY
    LAST_TEXT := gi Tp.c_LAST_TEXT
    LAST_TRANSLATION := gi Tp.c_LAST_TRANSLATION
    LAST_TONGUE := gi Tp.c_LAST_TONGUE
    MOST_KEYS := gi Tp.c_MOST_KEYS
    MOST_WORK := gi Tp.c_MOST_WORK
    MOST_PACKAGES := gi Tp.c_MOST_PACKAGES
    MOST_IN_PACKAGE := gi Tp.c_MOST_IN_PACKAGE
    MOST_RELEASES := gi Tp.c_MOST_RELEASES
    ALREADY_THERE := gi Tp.c_ALREADY_THERE
    AS_SENT := gi Tp.c_AS_SENT
    TAKEN := gi Tp.c_TAKEN
    LEFT_TO_CHOOSE := gi Tp.c_LEFT_TO_CHOOSE
    TEXT := gi Tp.c_TEXT
    GONE := gi Tp.c_GONE
    TRANSLATE := gi Tp.c_TRANSLATE
    SEND := gi Tp.c_SEND
    BACK := gi Tp.c_BACK
    CHOOSE := gi Tp.c_CHOOSE
    RELEASE := gi Tp.c_RELEASE
    LOOK := gi Tp.c_LOOK
    NOW := gi Tp.c_NOW
    TODO := gi Tp.c_TODO
    OFFER := gi Tp.c_OFFER
    STILL_OPEN := gi Tp.c_STILL_OPEN
    CHANGED := gi Tp.c_CHANGED
  }
  obtain ⟨f_initP, fd_initP, m_initP, F_initP⟩ := Tp.m_Package_init
  have b_initP := F_initP.binds (ps := ["self", "tongue", "texts", "bases"]) fun _ _ _ _ _ _ us hl => match us, hl with | [_, _, _, _], _ => rfl
  obtain ⟨f_initR, fd_initR, m_initR, F_initR⟩ := Tp.m_Records_init
  have b_initR := F_initR.binds (ps := ["self"]) fun _ _ _ _ _ _ us hl => match us, hl with | [_], _ => rfl
  obtain ⟨f_fits, fd_fits, a_fits, k_fits, F_fits⟩ := Tp.g_fits_a_package
  have b_fits := F_fits.binds (ps := ["chosen"]) fun _ _ _ _ _ _ us hl => match us, hl with | [_], _ => rfl
  obtain ⟨f_place, fd_place, a_place, k_place, F_place⟩ := Tp.g_sent_place
  have b_place := F_place.binds (ps := ["package", "key"]) fun _ _ _ _ _ _ us hl => match us, hl with | [_, _], _ => rfl
  obtain ⟨f_pairs, fd_pairs, a_pairs, k_pairs, F_pairs⟩ := Tp.g_pairs_of
  have b_pairs := F_pairs.binds (ps := ["row"]) fun _ _ _ _ _ _ us hl => match us, hl with | [_], _ => rfl
  obtain ⟨f_stands, fd_stands, m_stands, F_stands⟩ := Tp.m_Records_how_it_stands
  have b_stands := F_stands.binds (ps := ["self"]) fun _ _ _ _ _ _ us hl => match us, hl with | [_], _ => rfl
  obtain ⟨f_workAt, fd_workAt, m_workAt, F_workAt⟩ := Tp.m_Records_work_at
  have b_workAt := F_workAt.binds (ps := ["self", "place"]) fun _ _ _ _ _ _ us hl => match us, hl with | [_, _], _ => rfl
  obtain ⟨f_putWork, fd_putWork, m_putWork, F_putWork⟩ := Tp.m_Records_put_work
  have b_putWork := F_putWork.binds (ps := ["self", "place", "translation"]) fun _ _ _ _ _ _ us hl => match us, hl with | [_, _, _], _ => rfl
  obtain ⟨f_growth, fd_growth, m_growth, F_growth⟩ := Tp.m_Records_growth_at
  have b_growth := F_growth.binds (ps := ["self", "place", "translation"]) fun _ _ _ _ _ _ us hl => match us, hl with | [_, _, _], _ => rfl
  obtain ⟨f_tooMuch, fd_tooMuch, m_tooMuch, F_tooMuch⟩ := Tp.m_Records_too_much_work
  have b_tooMuch := F_tooMuch.binds (ps := ["self", "growth"]) fun _ _ _ _ _ _ us hl => match us, hl with | [_, _], _ => rfl
  obtain ⟨f_setText, fd_setText, m_setText, F_setText⟩ := Tp.m_Records_set_text
  have b_setText := F_setText.binds (ps := ["self", "key", "text"]) fun _ _ _ _ _ _ us hl => match us, hl with | [_, _, _], _ => rfl
  obtain ⟨f_dropKey, fd_dropKey, m_dropKey, F_dropKey⟩ := Tp.m_Records_drop_key
  have b_dropKey := F_dropKey.binds (ps := ["self", "key"]) fun _ _ _ _ _ _ us hl => match us, hl with | [_, _], _ => rfl
  obtain ⟨f_setTr, fd_setTr, m_setTr, F_setTr⟩ := Tp.m_Records_set_translation
  have b_setTr := F_setTr.binds (ps := ["self", "tongue", "key", "translation"]) fun _ _ _ _ _ _ us hl => match us, hl with | [_, _, _, _], _ => rfl
  obtain ⟨f_send, fd_send, m_send, F_send⟩ := Tp.m_Records_send_package
  have b_send := F_send.binds (ps := ["self", "tongue", "sent"]) fun _ _ _ _ _ _ us hl => match us, hl with | [_, _, _], _ => rfl
  obtain ⟨f_outcome, fd_outcome, m_outcome, F_outcome⟩ := Tp.m_Records_outcome_of
  have b_outcome := F_outcome.binds (ps := ["self", "package", "key", "theirs"]) fun _ _ _ _ _ _ us hl => match us, hl with | [_, _, _, _], _ => rfl
  obtain ⟨f_choose, fd_choose, m_choose, F_choose⟩ := Tp.m_Records_choose_one
  have b_choose := F_choose.binds (ps := ["self", "place", "is_theirs"]) fun _ _ _ _ _ _ us hl => match us, hl with | [_, _, _], _ => rfl
  obtain ⟨f_settle, fd_settle, m_settle, F_settle⟩ := Tp.m_Records_settle
  have b_settle := F_settle.binds (ps := ["self", "package", "key", "theirs"]) fun _ _ _ _ _ _ us hl => match us, hl with | [_, _, _, _], _ => rfl
  obtain ⟨f_grB, fd_grB, m_grB, F_grB⟩ := Tp.m_Records_growth_by_back
  have b_grB := F_grB.binds (ps := ["self", "package", "pairs"]) fun _ _ _ _ _ _ us hl => match us, hl with | [_, _, _], _ => rfl
  obtain ⟨f_refus, fd_refus, m_refus, F_refus⟩ := Tp.m_Records_refusal_of_back
  have b_refus := F_refus.binds (ps := ["self", "number", "pairs"]) fun _ _ _ _ _ _ us hl => match us, hl with | [_, _, _], _ => rfl
  obtain ⟨f_take, fd_take, m_take, F_take⟩ := Tp.m_Records_take_back
  have b_take := F_take.binds (ps := ["self", "number", "pairs"]) fun _ _ _ _ _ _ us hl => match us, hl with | [_, _, _], _ => rfl
  obtain ⟨f_shown, fd_shown, m_shown, F_shown⟩ := Tp.m_Records_shown_now
  have b_shown := F_shown.binds (ps := ["self", "tongue"]) fun _ _ _ _ _ _ us hl => match us, hl with | [_, _], _ => rfl
  obtain ⟨f_rel, fd_rel, m_rel, F_rel⟩ := Tp.m_Records_add_release
  have b_rel := F_rel.binds (ps := ["self", "tongue"]) fun _ _ _ _ _ _ us hl => match us, hl with | [_, _], _ => rfl
  obtain ⟨f_look, fd_look, m_look, F_look⟩ := Tp.m_Records_look_up
  have b_look := F_look.binds (ps := ["self", "number", "key"]) fun _ _ _ _ _ _ us hl => match us, hl with | [_, _, _], _ => rfl
  obtain ⟨f_now, fd_now, m_now, F_now⟩ := Tp.m_Records_list_now
  have b_now := F_now.binds (ps := ["self", "tongue"]) fun _ _ _ _ _ _ us hl => match us, hl with | [_, _], _ => rfl
  obtain ⟨f_offered, fd_offered, m_offered, F_offered⟩ := Tp.m_Records_offered_for
  have b_offered := F_offered.binds (ps := ["self", "tongue", "key"]) fun _ _ _ _ _ _ us hl => match us, hl with | [_, _, _], _ => rfl
  obtain ⟨f_todo, fd_todo, m_todo, F_todo⟩ := Tp.m_Records_list_todo
  have b_todo := F_todo.binds (ps := ["self", "tongue"]) fun _ _ _ _ _ _ us hl => match us, hl with | [_, _], _ => rfl
  obtain ⟨f_offer, fd_offer, m_offer, F_offer⟩ := Tp.m_Records_make_offer
  have b_offer := F_offer.binds (ps := ["self", "tongue", "key"]) fun _ _ _ _ _ _ us hl => match us, hl with | [_, _, _], _ => rfl
  obtain ⟨f_unset, fd_unset, m_unset, F_unset⟩ := Tp.m_Records_list_unsettled
  have b_unset := F_unset.binds (ps := ["self", "tongue"]) fun _ _ _ _ _ _ us hl => match us, hl with | [_, _], _ => rfl
  obtain ⟨f_changed, fd_changed, m_changed, F_changed⟩ := Tp.m_Records_list_changed
  have b_changed := F_changed.binds (ps := ["self", "number", "another"]) fun _ _ _ _ _ _ us hl => match us, hl with | [_, _, _], _ => rfl
  obtain ⟨f_told, fd_told, a_told, k_told, F_told⟩ := Tp.g_told_by
  have b_told := F_told.binds (ps := ["records", "call", "numbers"]) fun _ _ _ _ _ _ us hl => match us, hl with | [_, _, _], _ => rfl
  obtain ⟨f_ansOf, fd_ansOf, a_ansOf, k_ansOf, F_ansOf⟩ := Tp.g_answer_of
  have b_ansOf := F_ansOf.binds (ps := ["records", "call", "numbers", "row"]) fun _ _ _ _ _ _ us hl => match us, hl with | [_, _, _, _], _ => rfl
  obtain ⟨f_an, fd_an, a_an, k_an, F_an⟩ := Tp.g_answers
  have e := hfa.symm.trans (PySem.W.mg_of X G a_an)
  cases e
  obtain ⟨aw, nw, hw⟩ := Tp.t_WHOLE_NUMBERS
  obtain ⟨ac, nc, hc⟩ := Tp.t_CALLS_WITH_A_ROW
  have bt : ∀ (s : Shared) (us : List Value), us.length = (["calls"] : List Str).length → BindsTo s fd_an ⟨us, []⟩ ((["calls"] : List Str).zip us) := by
    obtain ⟨oc, od, kV, doc, pm, an, cdv, ct, osl, rfl, _, _⟩ := F_an.ex
    exact fun s us hu => match us, hu with | [_], _ => .of_eq rfl
  refine ⟨fd_an, bt, fun base _ _ => ?_⟩
  have C_fits : GCal P w K mg base "fits_a_package" 1 ["chosen"] (spFits K) := ⟨f_fits, fd_fits, PySem.W.mg_of X G a_fits, k_fits, ok_fits F_fits T, b_fits⟩
  have C_place : GCal P w K mg base "sent_place" 1 ["package", "key"] (spPlace CPackage) := ⟨f_place, fd_place, PySem.W.mg_of X G a_place, k_place, ok_place F_place T, b_place⟩
  have C_pairs : GCal P w K mg base "pairs_of" 1 ["row"] (spPairs K) := ⟨f_pairs, fd_pairs, PySem.W.mg_of X G a_pairs, k_pairs, ok_pairs F_pairs T, b_pairs⟩
  have C_stands : MCal P w K mg base CRecords "how_it_stands" 1 ["self"] (spStands CRecords CPackage) := ⟨f_stands, fd_stands, m_stands, ok_stands F_stands T, b_stands⟩
  have C_workAt : MCal P w K mg base CRecords "work_at" 1 ["self", "place"] (spWorkAt CRecords CPackage) := ⟨f_workAt, fd_workAt, m_workAt, ok_workAt F_workAt T, b_workAt⟩
  have C_putWork : MCal P w K mg base CRecords "put_work" 1 ["self", "place", "translation"] (spPutWork CRecords CPackage) := ⟨f_putWork, fd_putWork, m_putWork, ok_putWork F_putWork T, b_putWork⟩
  have C_growth : MCal P w K mg base CRecords "growth_at" 1 ["self", "place", "translation"] (spGrowth CRecords CPackage) := ⟨f_growth, fd_growth, m_growth, ok_growth F_growth T, b_growth⟩
  have C_tooMuch : MCal P w K mg base CRecords "too_much_work" 1 ["self", "growth"] (spTooMuch CRecords CPackage) := ⟨f_tooMuch, fd_tooMuch, m_tooMuch, ok_tooMuch F_tooMuch T, b_tooMuch⟩
  have C_setText : MCal P w K mg base CRecords "set_text" 2 ["self", "key", "text"] (spSetText CRecords CPackage) := ⟨f_setText, fd_setText, m_setText, ok_setText F_setText T C_stands, b_setText⟩
  have C_dropKey : MCal P w K mg base CRecords "drop_key" 2 ["self", "key"] (spDropKey CRecords CPackage) := ⟨f_dropKey, fd_dropKey, m_dropKey, ok_dropKey F_dropKey T C_stands, b_dropKey⟩
  have C_setTr : MCal P w K mg base CRecords "set_translation" 2 ["self", "tongue", "key", "translation"] (spSetTr CRecords CPackage) := ⟨f_setTr, fd_setTr, m_setTr, ok_setTr F_setTr T C_stands C_growth C_tooMuch C_putWork, b_setTr⟩
  have C_send : MCal P w K mg base CRecords "send_package" 3 ["self", "tongue", "sent"] (spSend K CRecords CPackage) := ⟨f_send, fd_send, m_send, ok_send F_send T C_fits C_workAt ⟨Tp.fPackage.ma, m_initP.at_, m_initP.fn, Tp.fPackage.kc⟩ (ok_initP F_initP T) b_initP, b_send⟩
  have C_outcome : MCal P w K mg base CRecords "outcome_of" 2 ["self", "package", "key", "theirs"] (spOutcome CRecords CPackage) := ⟨f_outcome, fd_outcome, m_outcome, ok_outcome F_outcome T C_place C_workAt, b_outcome⟩
  have C_choose : MCal P w K mg base CRecords "choose_one" 2 ["self", "place", "is_theirs"] (spChoose CRecords CPackage) := ⟨f_choose, fd_choose, m_choose, ok_choose F_choose T C_stands C_growth C_tooMuch C_putWork, b_choose⟩
  have C_settle : MCal P w K mg base CRecords "settle" 3 ["self", "package", "key", "theirs"] (spSettle CRecords CPackage) := ⟨f_settle, fd_settle, m_settle, ok_settle F_settle T C_place C_outcome C_putWork, b_settle⟩
  have C_grB : MCal P w K mg base CRecords "growth_by_back" 3 ["self", "package", "pairs"] (spGrB CRecords CPackage) := ⟨f_grB, fd_grB, m_grB, ok_grB F_grB T C_place C_outcome C_growth, b_grB⟩
  have C_refus : MCal P w K mg base CRecords "refusal_of_back" 4 ["self", "number", "pairs"] (spRefus CRecords CPackage) := ⟨f_refus, fd_refus, m_refus, ok_refus F_refus T C_fits C_tooMuch C_grB, b_refus⟩
  have C_take : MCal P w K mg base CRecords "take_back" 5 ["self", "number", "pairs"] (spTake CRecords CPackage) := ⟨f_take, fd_take, m_take, ok_take F_take T C_refus C_settle, b_take⟩
  have C_shown : MCal P w K mg base CRecords "shown_now" 2 ["self", "tongue"] (spShown CRecords CPackage) := ⟨f_shown, fd_shown, m_shown, ok_shown F_shown T C_workAt, b_shown⟩
  have C_rel : MCal P w K mg base CRecords "add_release" 3 ["self", "tongue"] (spRel CRecords CPackage) := ⟨f_rel, fd_rel, m_rel, ok_rel F_rel T C_shown, b_rel⟩
  have C_look : MCal P w K mg base CRecords "look_up" 1 ["self", "number", "key"] (spLook CRecords CPackage) := ⟨f_look, fd_look, m_look, ok_look F_look T, b_look⟩
  have C_now : MCal P w K mg base CRecords "list_now" 3 ["self", "tongue"] (spNow CRecords CPackage) := ⟨f_now, fd_now, m_now, ok_now F_now T C_shown, b_now⟩
  have C_offered : MCal P w K mg base CRecords "offered_for" 2 ["self", "tongue", "key"] (spOffered CRecords CPackage) := ⟨f_offered, fd_offered, m_offered, ok_offered F_offered T C_workAt, b_offered⟩
  have C_todo : MCal P w K mg base CRecords "list_todo" 3 ["self", "tongue"] (spTodo CRecords CPackage) := ⟨f_todo, fd_todo, m_todo, ok_todo F_todo T C_shown C_offered, b_todo⟩
  have C_offer : MCal P w K mg base CRecords "make_offer" 3 ["self", "tongue", "key"] (spOffer CRecords CPackage) := ⟨f_offer, fd_offer, m_offer, ok_offer F_offer T C_workAt C_offered, b_offer⟩
  have C_unset : MCal P w K mg base CRecords "list_unsettled" 2 ["self", "tongue"] (spUnset CRecords CPackage) := ⟨f_unset, fd_unset, m_unset, ok_unset F_unset T C_workAt, b_unset⟩
  have C_changed : MCal P w K mg base CRecords "list_changed" 1 ["self", "number", "another"] (spChanged CRecords CPackage) := ⟨f_changed, fd_changed, m_changed, ok_changed F_changed T, b_changed⟩
  have C_told : GCal P w K mg base "told_by" 4 ["records", "call", "numbers"] (spTold CRecords CPackage) := ⟨f_told, fd_told, PySem.W.mg_of X G a_told, k_told, ok_told F_told T C_look C_now C_todo C_offer C_unset C_changed C_stands, b_told⟩
  have C_ansOf : GCal P w K mg base "answer_of" 6 ["records", "call", "numbers", "row"] (spAnsOf CRecords CPackage) := ⟨f_ansOf, fd_ansOf, PySem.W.mg_of X G a_ansOf, k_ansOf, ok_ansOf F_ansOf T C_setText C_dropKey C_setTr C_send C_take C_choose C_rel C_pairs C_told, b_ansOf⟩
  exact ok_answers F_an T [2, 1, 3, 1, 1, 4, 1, 2, 1, 1, 2, 1, 2, 0] (fun c => by cases c <;> rfl) ⟨aw, PySem.W.mg_of X G nw, hw⟩ ⟨ac, PySem.W.mg_of X G nc, hc⟩ ⟨Tp.fRecords.ma, m_initR.at_, m_initR.fn, Tp.fRecords.kc⟩ (ok_initR F_initR T) b_initR C_ansOf
end Tof
open PySem PySem.W PyProof.Rows
set_option maxRecDepth 100000 in
set_option maxHeartbeats 8000000 in
theorem PySem.Challenge.cw_tongueoffice_s01_answers_holds : PySem.Challenge.rw_tongueoffice_s01_answers.Holds := by
  w_on; k_headS; (case hw => exact ⟨[.list [.int 13]], by decide +kernel, by decide +kernel⟩)
  k_fillS
  refine L2.walk_specK (r := PySem.Challenge.rw_tongueoffice_s01_answers) (k := 7) (CX := L2.CX0) (ps := ["calls"]) (sp := Tof.spAnswers) (by decide +kernel) rfl rfl ⟨rfl, by decide, by decide⟩ (fun w h Y => PySem.W.kIn_of Y) ?F ?S (fun _ _ _ _ z => z)
  case F =>
    intro w mg fa h Y KX G hmg
    refine' Tof.all_mk KX G hmg (Tof.Tops.mk ?aPackage ?fPackage ?aRecords ?fRecords ?nRecords_source ?nRecords_work ?nRecords_packages ?nRecords_unsettled ?nRecords_releases ?nPackage_tongue ?nPackage_texts ?nPackage_bases ?b_any ?b_len ?b_list ?b_min ?b_range ?b_set ?b_sorted ?b_sum ?c_NOT_AS_TOLD ?c_MISSING ?c_NOT_IN_PACKAGE ?c_FULL ?c_NOT_IN_RELEASE ?c_LAST_KEY ?c_LAST_TEXT ?c_LAST_TRANSLATION ?c_LAST_TONGUE ?c_MOST_KEYS ?c_MOST_WORK ?c_MOST_PACKAGES ?c_MOST_IN_PACKAGE ?c_MOST_RELEASES ?c_ALREADY_THERE ?c_AS_SENT ?c_TAKEN ?c_LEFT_TO_CHOOSE ?c_TEXT ?c_GONE ?c_TRANSLATE ?c_SEND ?c_BACK ?c_CHOOSE ?c_RELEASE ?c_LOOK ?c_NOW ?c_TODO ?c_OFFER ?c_STILL_OPEN ?c_CHANGED ?t_WHOLE_NUMBERS ?t_CALLS_WITH_A_ROW ?m_Package_init ?m_Records_init ?m_Records_how_it_stands ?m_Records_work_at ?m_Records_put_work ?m_Records_growth_at ?m_Records_too_much_work ?m_Records_set_text ?m_Records_drop_key ?m_Records_set_translation ?m_Records_send_package ?m_Records_take_back ?m_Records_refusal_of_back ?m_Records_growth_by_back ?m_Records_outcome_of ?m_Records_settle ?m_Records_choose_one ?m_Records_add_release ?m_Records_shown_now ?m_Records_look_up ?m_Records_list_now ?m_Records_list_todo ?m_Records_make_offer ?m_Records_offered_for ?m_Records_list_unsettled ?m_Records_list_changed ?g_fits_a_package ?g_sent_place ?g_answers ?g_answer_of ?g_told_by ?g_pairs_of)
    (case aPackage => k_is)
    (case fPackage => (refine' Tof.ClsF.mk ⟨?z1a, ?z1b, ?z1c, ?z1d⟩ ?z1e ?z1f; (case z1a => k_is); (case z1b => k_is); (case z1c => k_is); (case z1d => k_is); (case z1e => k_is); (case z1f => k_is)))
    (case aRecords => k_is)
    (case fRecords => (refine' Tof.ClsF.mk ⟨?z3a, ?z3b, ?z3c, ?z3d⟩ ?z3e ?z3f; (case z3a => k_is); (case z3b => k_is); (case z3c => k_is); (case z3d => k_is); (case z3e => k_is); (case z3f => k_is)))
    (case nRecords_source => (show PySem.W.findIn _ _ _ = _; k_is))
    (case nRecords_work => (show PySem.W.findIn _ _ _ = _; k_is))
    (case nRecords_packages => (show PySem.W.findIn _ _ _ = _; k_is))
    (case nRecords_unsettled => (show PySem.W.findIn _ _ _ = _; k_is))
    (case nRecords_releases => (show PySem.W.findIn _ _ _ = _; k_is))
    (case nPackage_tongue => (show PySem.W.findIn _ _ _ = _; k_is))
    (case nPackage_texts => (show PySem.W.findIn _ _ _ = _; k_is))
    (case nPackage_bases => (show PySem.W.findIn _ _ _ = _; k_is))
    (case b_any => k_is)
    (case b_len => k_is)
    (case b_list => k_is)
    (case b_min => k_is)
    (case b_range => k_is)
    (case b_set => k_is)
    (case b_sorted => k_is)
    (case b_sum => k_is)
    (case c_NOT_AS_TOLD => (refine' Tof.if_mk ?z20a; (case z20a => k_is)))
    (case c_MISSING => (refine' Tof.if_mk ?z21a; (case z21a => k_is)))
    (case c_NOT_IN_PACKAGE => (refine' Tof.if_mk ?z22a; (case z22a => k_is)))
    (case c_FULL => (refine' Tof.if_mk ?z23a; (case z23a => k_is)))
    (case c_NOT_IN_RELEASE => (refine' Tof.if_mk ?z24a; (case z24a => k_is)))
    (case c_LAST_KEY => (refine' Tof.if_mk ?z25a; (case z25a => k_is)))
    (case c_LAST_TEXT => (refine' Tof.if_mk ?z26a; (case z26a => k_is)))
    (case c_LAST_TRANSLATION => (refine' Tof.if_mk ?z27a; (case z27a => k_is)))
    (case c_LAST_TONGUE => (refine' Tof.if_mk ?z28a; (case z28a => k_is)))
    (case c_MOST_KEYS => (refine' Tof.if_mk ?z29a; (case z29a => k_is)))
    (case c_MOST_WORK => (refine' Tof.if_mk ?z30a; (case z30a => k_is)))
    (case c_MOST_PACKAGES => (refine' Tof.if_mk ?z31a; (case z31a => k_is)))
    (case c_MOST_IN_PACKAGE => (refine' Tof.if_mk ?z32a; (case z32a => k_is)))
    (case c_MOST_RELEASES => (refine' Tof.if_mk ?z33a; (case z33a => k_is)))
    (case c_ALREADY_THERE => (refine' Tof.if_mk ?z34a; (case z34a => k_is)))
    (case c_AS_SENT => (refine' Tof.if_mk ?z35a; (case z35a => k_is)))
    (case c_TAKEN => (refine' Tof.if_mk ?z36a; (case z36a => k_is)))
    (case c_LEFT_TO_CHOOSE => (refine' Tof.if_mk ?z37a; (case z37a => k_is)))
    (case c_TEXT => (refine' Tof.if_mk ?z38a; (case z38a => k_is)))
    (case c_GONE => (refine' Tof.if_mk ?z39a; (case z39a => k_is)))
    (case c_TRANSLATE => (refine' Tof.if_mk ?z40a; (case z40a => k_is)))
    (case c_SEND => (refine' Tof.if_mk ?z41a; (case z41a => k_is)))
    (case c_BACK => (refine' Tof.if_mk ?z42a; (case z42a => k_is)))
    (case c_CHOOSE => (refine' Tof.if_mk ?z43a; (case z43a => k_is)))
    (case c_RELEASE => (refine' Tof.if_mk ?z44a; (case z44a => k_is)))
    (case c_LOOK => (refine' Tof.if_mk ?z45a; (case z45a => k_is)))
    (case c_NOW => (refine' Tof.if_mk ?z46a; (case z46a => k_is)))
    (case c_TODO => (refine' Tof.if_mk ?z47a; (case z47a => k_is)))
    (case c_OFFER => (refine' Tof.if_mk ?z48a; (case z48a => k_is)))
    (case c_STILL_OPEN => (refine' Tof.if_mk ?z49a; (case z49a => k_is)))
    (case c_CHANGED => (refine' Tof.if_mk ?z50a; (case z50a => k_is)))
    (case t_WHOLE_NUMBERS => (refine' Tof.tf_mk14 ?z51a ?z51l _ ?z51h; (case z51a => k_is); (case z51l => k_is); (case z51h => rfl)))
    (case t_CALLS_WITH_A_ROW => (refine' Tof.tf_mk2 ?z52a ?z52l _ ?z52h; (case z52a => k_is); (case z52l => k_is); (case z52h => rfl)))
    (case m_Package_init => (refine' Tof.mf_mk ?z53a ?z53i ?z53l ?z53c ?z53k; (case z53a => k_is); (case z53i => k_is); (case z53l => k_is); (case z53c => k_is); (case z53k => k_is)))
    (case m_Records_init => (refine' Tof.mf_mk ?z54a ?z54i ?z54l ?z54c ?z54k; (case z54a => k_is); (case z54i => k_is); (case z54l => k_is); (case z54c => k_is); (case z54k => k_is)))
    (case m_Records_how_it_stands => (refine' Tof.mf_mk ?z55a ?z55i ?z55l ?z55c ?z55k; (case z55a => k_is); (case z55i => k_is); (case z55l => k_is); (case z55c => k_is); (case z55k => k_is)))
    (case m_Records_work_at => (refine' Tof.mf_mk ?z56a ?z56i ?z56l ?z56c ?z56k; (case z56a => k_is); (case z56i => k_is); (case z56l => k_is); (case z56c => k_is); (case z56k => k_is)))
    (case m_Records_put_work => (refine' Tof.mf_mk ?z57a ?z57i ?z57l ?z57c ?z57k; (case z57a => k_is); (case z57i => k_is); (case z57l => k_is); (case z57c => k_is); (case z57k => k_is)))
    (case m_Records_growth_at => (refine' Tof.mf_mk ?z58a ?z58i ?z58l ?z58c ?z58k; (case z58a => k_is); (case z58i => k_is); (case z58l => k_is); (case z58c => k_is); (case z58k => k_is)))
    (case m_Records_too_much_work => (refine' Tof.mf_mk ?z59a ?z59i ?z59l ?z59c ?z59k; (case z59a => k_is); (case z59i => k_is); (case z59l => k_is); (case z59c => k_is); (case z59k => k_is)))
    (case m_Records_set_text => (refine' Tof.mf_mk ?z60a ?z60i ?z60l ?z60c ?z60k; (case z60a => k_is); (case z60i => k_is); (case z60l => k_is); (case z60c => k_is); (case z60k => k_is)))
    (case m_Records_drop_key => (refine' Tof.mf_mk ?z61a ?z61i ?z61l ?z61c ?z61k; (case z61a => k_is); (case z61i => k_is); (case z61l => k_is); (case z61c => k_is); (case z61k => k_is)))
    (case m_Records_set_translation => (refine' Tof.mf_mk ?z62a ?z62i ?z62l ?z62c ?z62k; (case z62a => k_is); (case z62i => k_is); (case z62l => k_is); (case z62c => k_is); (case z62k => k_is)))
    (case m_Records_send_package => (refine' Tof.mf_mk ?z63a ?z63i ?z63l ?z63c ?z63k; (case z63a => k_is); (case z63i => k_is); (case z63l => k_is); (case z63c => k_is); (case z63k => k_is)))
    (case m_Records_take_back => (refine' Tof.mf_mk ?z64a ?z64i ?z64l ?z64c ?z64k; (case z64a => k_is); (case z64i => k_is); (case z64l => k_is); (case z64c => k_is); (case z64k => k_is)))
    (case m_Records_refusal_of_back => (refine' Tof.mf_mk ?z65a ?z65i ?z65l ?z65c ?z65k; (case z65a => k_is); (case z65i => k_is); (case z65l => k_is); (case z65c => k_is); (case z65k => k_is)))
    (case m_Records_growth_by_back => (refine' Tof.mf_mk ?z66a ?z66i ?z66l ?z66c ?z66k; (case z66a => k_is); (case z66i => k_is); (case z66l => k_is); (case z66c => k_is); (case z66k => k_is)))
    (case m_Records_outcome_of => (refine' Tof.mf_mk ?z67a ?z67i ?z67l ?z67c ?z67k; (case z67a => k_is); (case z67i => k_is); (case z67l => k_is); (case z67c => k_is); (case z67k => k_is)))
    (case m_Records_settle => (refine' Tof.mf_mk ?z68a ?z68i ?z68l ?z68c ?z68k; (case z68a => k_is); (case z68i => k_is); (case z68l => k_is); (case z68c => k_is); (case z68k => k_is)))
    (case m_Records_choose_one => (refine' Tof.mf_mk ?z69a ?z69i ?z69l ?z69c ?z69k; (case z69a => k_is); (case z69i => k_is); (case z69l => k_is); (case z69c => k_is); (case z69k => k_is)))
    (case m_Records_add_release => (refine' Tof.mf_mk ?z70a ?z70i ?z70l ?z70c ?z70k; (case z70a => k_is); (case z70i => k_is); (case z70l => k_is); (case z70c => k_is); (case z70k => k_is)))
    (case m_Records_shown_now => (refine' Tof.mf_mk ?z71a ?z71i ?z71l ?z71c ?z71k; (case z71a => k_is); (case z71i => k_is); (case z71l => k_is); (case z71c => k_is); (case z71k => k_is)))
    (case m_Records_look_up => (refine' Tof.mf_mk ?z72a ?z72i ?z72l ?z72c ?z72k; (case z72a => k_is); (case z72i => k_is); (case z72l => k_is); (case z72c => k_is); (case z72k => k_is)))
    (case m_Records_list_now => (refine' Tof.mf_mk ?z73a ?z73i ?z73l ?z73c ?z73k; (case z73a => k_is); (case z73i => k_is); (case z73l => k_is); (case z73c => k_is); (case z73k => k_is)))
    (case m_Records_list_todo => (refine' Tof.mf_mk ?z74a ?z74i ?z74l ?z74c ?z74k; (case z74a => k_is); (case z74i => k_is); (case z74l => k_is); (case z74c => k_is); (case z74k => k_is)))
    (case m_Records_make_offer => (refine' Tof.mf_mk ?z75a ?z75i ?z75l ?z75c ?z75k; (case z75a => k_is); (case z75i => k_is); (case z75l => k_is); (case z75c => k_is); (case z75k => k_is)))
    (case m_Records_offered_for => (refine' Tof.mf_mk ?z76a ?z76i ?z76l ?z76c ?z76k; (case z76a => k_is); (case z76i => k_is); (case z76l => k_is); (case z76c => k_is); (case z76k => k_is)))
    (case m_Records_list_unsettled => (refine' Tof.mf_mk ?z77a ?z77i ?z77l ?z77c ?z77k; (case z77a => k_is); (case z77i => k_is); (case z77l => k_is); (case z77c => k_is); (case z77k => k_is)))
    (case m_Records_list_changed => (refine' Tof.mf_mk ?z78a ?z78i ?z78l ?z78c ?z78k; (case z78a => k_is); (case z78i => k_is); (case z78l => k_is); (case z78c => k_is); (case z78k => k_is)))
    (case g_fits_a_package => (refine' Tof.gf_mk ?z79a ?z79l ?z79c ?z79k; (case z79a => k_is); (case z79l => k_is); (case z79c => k_is); (case z79k => k_is)))
    (case g_sent_place => (refine' Tof.gf_mk ?z80a ?z80l ?z80c ?z80k; (case z80a => k_is); (case z80l => k_is); (case z80c => k_is); (case z80k => k_is)))
    (case g_answers => (refine' Tof.gf_mk ?z81a ?z81l ?z81c ?z81k; (case z81a => k_is); (case z81l => k_is); (case z81c => k_is); (case z81k => k_is)))
    (case g_answer_of => (refine' Tof.gf_mk ?z82a ?z82l ?z82c ?z82k; (case z82a => k_is); (case z82l => k_is); (case z82c => k_is); (case z82k => k_is)))
    (case g_told_by => (refine' Tof.gf_mk ?z83a ?z83l ?z83c ?z83k; (case z83a => k_is); (case z83l => k_is); (case z83c => k_is); (case z83k => k_is)))
    (case g_pairs_of => (refine' Tof.gf_mk ?z84a ?z84l ?z84c ?z84k; (case z84a => k_is); (case z84l => k_is); (case z84c => k_is); (case z84k => k_is)))
  case S =>
    intro K H xs a hO hwi hask hx
    cases hx with
    | cons h1 h2 =>
      cases h2
      cases h1 with
      | lst hs ha =>
        have e := L2.ints_dw a.1 _ ha
        subst e
        have q : ((Codec.inLen 0 1000 a.1 && a.1.all (Codec.inInt 0 4294967295)) && true) = true := hwi
        rw [Bool.and_eq_true, Bool.and_eq_true] at q
        exact ⟨_, a.1, rfl, hs, hask, (Codec.inNat_iff.mp q.1.1).2, fun H' p hp => .lst (L2.SqL.of hp) (L2.dw_ints _)⟩
