import PyProof.Rows.All
import Wide.All
import OpenK.AllK
import Wide.FinOn
import PyProof.ReprRoads
import KE.KMathG
import HandS.ForMost
import HandS.IsInst
import HandS.FStr
import HandS.Property
import HandS.Gcd
import HandS.NoneIn
import HandS.Style
import HandS.Flow
import HandS.Wide
import HandS.Conv
import HandS.Walk
import HandS.RaiseMore
import KE.KUnpackStar
import KE.KDictSum
import HandS.Sort
import HandS.MakeKwOnly
import HandS.Strs
import HandS.Ends
import HandS.SlotsOwn
import HandS.More
import PyProof.InstNe
import HandS.Small
import PyProof.ReprLen
import KE.KDictZip
import HandS.Zip
import HandS.Star
import HandS.Codes
import HandS.TupSets
import HandS.SortRule
import HandS.NamedTupSort
import PyProof.LongRange
import PyProof.ListRange
import HandS.WideBits
import HandS.Lambda
import HandS.TryMany
import HandS.HotCalls
import HandS.ExcInit
import HandS.ExcIs
import HandS.ExcInitHot
import KE.KExcIs
import HandS.WordsExc
import HandS.EndTab
import HandS.TupMul
import KE.GoesEnum
import HandS.Iter
import HandS.TryOnly
import KE.KDictItemsList
import KE.GoesNew
import KE.GoesMore
import KE.LtSeq
import KE.LtData
import KE.KExcInit
import PyProof.ExcBaseAll.LookupError
import PyProof.ExcBaseAll.ArithmeticError
import HandS.CallLocal
import KE.KTupSum
import HandS.TupLe
import HandS.HeadHook3
import PyProof.ListIndex
import KE.KDictPairs
import KE.KEqDict
import HandS.Deep
import KE.SortData
import KE.DataCmp
import PyProof.NeKinds
import HandS.Head0
import HandS.Head1
import HandS.Head2
import HandS.Head3
import HandS.HeadHook1
import HandS.HeadHook2
import HandS.HeadHook4
import HandS.SortInts
import PySem.Challenge.RW_tickshares_k44_lates_refused
import HandS.DictComp
set_option Elab.async false
set_option linter.all false
set_option maxHeartbeats 4000000
set_option maxRecDepth 100000
namespace Ts
open PySem PySem.Spec PyProof.Rows L2
def top (i : Nat) : Stmt := PySem.Challenge.pw_tickshares_k44_lates_refused.main.body.getD i (.Pass ⟨0, 0, 0, 0⟩)
end Ts
namespace Ts
open PySem PySem.Spec PyProof.Rows L2
/-! ## heaps -/
theorem same_new {H : Hp} {p : Addr} {o : HO} (h : H p = none) : Same H (upd H p o) := fun b x e => by
  rw [upd_ne (ne_of_none e h)]; exact e
/-- all but what stands at b is as it was -/
def But (b : Addr) (H H' : Hp) : Prop := ∀ a o, a ≠ b → H a = some o → H' a = some o
def hid (b : Addr) (H : Hp) : Hp := fun a => if a = b then none else H a
theorem hid_ne {b a : Addr} {H : Hp} (h : a ≠ b) : hid b H a = H a := if_neg h
theorem hid_some {b a : Addr} {H : Hp} {o : HO} (h : hid b H a = some o) : a ≠ b ∧ H a = some o := by
  unfold hid at h
  split at h
  · cases h
  · exact ⟨by assumption, h⟩
theorem hid_sub {b : Addr} {H : Hp} : Same (hid b H) H := fun a o h => (hid_some h).2
theorem But.refl {b : Addr} {H : Hp} : But b H H := fun _ _ _ h => h
theorem But.trans {b : Addr} {H H1 H2 : Hp} (x : But b H H1) (y : But b H1 H2) : But b H H2 := fun a o n h => y a o n (x a o n h)
theorem But.hid {b : Addr} {H H' : Hp} (x : But b H H') : Same (hid b H) (hid b H') := fun a o h => by
  obtain ⟨n, e⟩ := hid_some h
  rw [hid_ne n]; exact x a o n e
theorem But.of {b : Addr} {H H' : Hp} (x : Same (Ts.hid b H) (Ts.hid b H')) : But b H H' := fun a o n h => (hid_some (x a o (by rw [hid_ne n]; exact h))).2
theorem But.of_same {b : Addr} {H H' : Hp} (x : Same H H') : But b H H' := fun a o _ h => x a o h
theorem But.set {b : Addr} {H : Hp} {o : HO} : But b H (upd H b o) := fun a u n h => by rw [upd_ne n]; exact h
/-- a fresh address of a heap that has b -/
theorem But.free {b p : Addr} {H H' : Hp} (x : But b H H') (hb : b ≠ p) (h : H' p = none) : H p = none := by
  cases e : H p with
  | none => rfl
  | some o => rw [x p o (Ne.symm hb) e] at h; cases h
end Ts
namespace L2
open PySem PySem.Spec PyProof.Rows
/-! ## data that is read -/
mutual
theorem Dp.mono {K : PySem.W.Frag} {H H' : Hp} (s : Same H H') : ∀ {v : V} {d : PyData}, Dp K H v d → Dp K H' v d
  | _, _, .non => .non
  | _, _, .bl b => .bl b
  | _, _, .int i => .int i
  | _, _, .str x => .str x
  | _, _, .lst h a => .lst (s.seq h) (DpAll.mono s a)
  | _, _, .tup h a => .tup (by
      rcases h with (h | ⟨o, h⟩) | h
      · exact .inl (.inl (s _ _ h))
      · exact .inl (.inr ⟨o, s _ _ h⟩)
      · exact .inr h) (DpAll.mono s a)
theorem DpAll.mono {K : PySem.W.Frag} {H H' : Hp} (s : Same H H') : ∀ {vs : List V} {ds : List PyData}, DpAll K H vs ds → DpAll K H' vs ds
  | _, _, .nil => .nil
  | _, _, .cons h a => .cons (Dp.mono s h) (DpAll.mono s a)
end
theorem sameT {K : PySem.W.Frag} {H H' : Hp} (s : Same H H') {a : Addr} {xs : List V} (h : SqT K H a xs) : SqT K H' a xs := by
  rcases h with (h | ⟨o, h⟩) | h
  · exact .inl (.inl (s _ _ h))
  · exact .inl (.inr ⟨o, s _ _ h⟩)
  · exact .inr h
theorem DpAll.length {K : PySem.W.Frag} {H : Hp} : ∀ {vs : List V} {ds : List PyData}, DpAll K H vs ds → vs.length = ds.length
  | _, _, .nil => rfl
  | _, _, .cons _ a => congrArg (· + 1) (DpAll.length a)
theorem DpAll.get {K : PySem.W.Frag} {H : Hp} : ∀ {vs : List V} {ds : List PyData}, DpAll K H vs ds → ∀ {i : Nat} {v : V}, vs[i]? = some v → ∃ d, ds[i]? = some d ∧ Dp K H v d
  | _, _, .cons h a, 0, v, e => by
    have e' : _ = v := Option.some.inj e
    subst e'; exact ⟨_, rfl, h⟩
  | _, _, .cons h a, i + 1, v, e => DpAll.get (i := i) a e
theorem DpAll.append {K : PySem.W.Frag} {H : Hp} : ∀ {vs ws : List V} {ds es : List PyData}, DpAll K H vs ds → DpAll K H ws es → DpAll K H (vs ++ ws) (ds ++ es)
  | _, _, _, _, .nil, b => b
  | _, _, _, _, .cons h a, b => .cons h (DpAll.append a b)
theorem Dp.list {K : PySem.W.Frag} {H : Hp} {v : V} {ds : List PyData} (h : Dp K H v (.list ds)) : ∃ a xs, v = .ref a ∧ SqL K H a xs ∧ DpAll K H xs ds := by
  cases h with
  | lst h a => exact ⟨_, _, rfl, h, a⟩
theorem Dp.tuple {K : PySem.W.Frag} {H : Hp} {v : V} {ds : List PyData} (h : Dp K H v (.tuple ds)) : ∃ a xs, v = .ref a ∧ SqT K H a xs ∧ DpAll K H xs ds := by
  cases h with
  | tup h a => exact ⟨_, _, rfl, h, a⟩
theorem Dp.int_eq {K : PySem.W.Frag} {H : Hp} {v : V} {i : Int} (h : Dp K H v (.int i)) : v = .int i := by cases h; rfl
theorem Dp.str_eq {K : PySem.W.Frag} {H : Hp} {v : V} {x : Str} (h : Dp K H v (.str x)) : v = .str x := by cases h; rfl
theorem DpAll.two {K : PySem.W.Frag} {H : Hp} {xs : List V} {d e : PyData} (h : DpAll K H xs [d, e]) : ∃ v w, xs = [v, w] ∧ Dp K H v d ∧ Dp K H w e := by
  cases h with
  | cons h a => cases a with
    | cons g b => cases b; exact ⟨_, _, rfl, h, g⟩
theorem DpAll.ints {K : PySem.W.Frag} {H : Hp} : ∀ (l : List Int), DpAll K H (l.map V.int) (l.map PyData.int)
  | [] => .nil
  | i :: l => .cons (.int i) (DpAll.ints l)
theorem DpAll.strs {K : PySem.W.Frag} {H : Hp} : ∀ (l : List Str), DpAll K H (l.map V.str) (l.map PyData.str)
  | [] => .nil
  | i :: l => .cons (.str i) (DpAll.strs l)
/-- an address that holds no list and no tuple is none of the data's -/
def NoSeq (o : HO) : Prop := (∀ xs, o ≠ .lst xs) ∧ (∀ xs, o ≠ .tup xs) ∧ ∀ ob u, o ≠ .frz ob u
theorem NoSeq.ins {C dx : Addr} {fs : List (Str × V)} : NoSeq (.ins C dx fs) := ⟨fun _ z => (nomatch z), fun _ z => (nomatch z), fun _ _ z => (nomatch z)⟩
theorem SqL.hide {K : PySem.W.Frag} {H : Hp} {a b : Addr} {o : HO} {xs : List V} (ha : H a = some o) (n : NoSeq o) (h : SqL K H b xs) : SqL K (Ts.hid a H) b xs := by
  have ne : ∀ u, H b = some u → u ≠ o → b ≠ a := fun u e d z => by rw [z, ha] at e; exact d (Option.some.inj e).symm
  rcases h with (h | ⟨ob, h⟩) | h
  · exact .inl (.inl ((Ts.hid_ne (ne _ h fun z => n.1 _ z.symm)).trans h))
  · exact .inl (.inr ⟨ob, (Ts.hid_ne (ne _ h fun z => n.2.2 _ _ z.symm)).trans h⟩)
  · exact .inr h
theorem SqT.hide {K : PySem.W.Frag} {H : Hp} {a b : Addr} {o : HO} {xs : List V} (ha : H a = some o) (n : NoSeq o) (h : SqT K H b xs) : SqT K (Ts.hid a H) b xs := by
  have ne : ∀ u, H b = some u → u ≠ o → b ≠ a := fun u e d z => by rw [z, ha] at e; exact d (Option.some.inj e).symm
  rcases h with (h | ⟨ob, h⟩) | h
  · exact .inl (.inl ((Ts.hid_ne (ne _ h fun z => n.2.1 _ z.symm)).trans h))
  · exact .inl (.inr ⟨ob, (Ts.hid_ne (ne _ h fun z => n.2.2 _ _ z.symm)).trans h⟩)
  · exact .inr h
mutual
theorem Dp.hide {K : PySem.W.Frag} {H : Hp} {a : Addr} {o : HO} (ha : H a = some o) (n : NoSeq o) : ∀ {v : V} {d : PyData}, Dp K H v d → Dp K (Ts.hid a H) v d
  | _, _, .non => .non
  | _, _, .bl b => .bl b
  | _, _, .int i => .int i
  | _, _, .str x => .str x
  | _, _, .lst h x => .lst (h.hide ha n) (DpAll.hide ha n x)
  | _, _, .tup h x => .tup (h.hide ha n) (DpAll.hide ha n x)
theorem DpAll.hide {K : PySem.W.Frag} {H : Hp} {a : Addr} {o : HO} (ha : H a = some o) (n : NoSeq o) : ∀ {vs : List V} {ds : List PyData}, DpAll K H vs ds → DpAll K (Ts.hid a H) vs ds
  | _, _, .nil => .nil
  | _, _, .cons h x => .cons (Dp.hide ha n h) (DpAll.hide ha n x)
end
end L2
namespace Ts
open PySem PySem.Spec PyProof.Rows L2
/-- a comprehension's clause without tests -/
theorem yesIf {σ : L2.St} {H : Hp} {A B : Hp → Prop} (h : A H) : tYes σ H (fun b H3 => if b = true then A H3 else B H3) := by
  show (if true = true then A H else B H)
  exact iteT h
/-! ## a def by its promise -/
section
variable (P : Program) (w : World) (K : PySem.W.Frag) (mg : Str → Option Value) (base : Heap)
structure Has (k : Nat) (x : Str) (ps : List Str) (sp : Sp) : Prop where
  ex : ∃ f fd, FnOk P w K mg base CX0 k f fd ps sp ∧ mg x = some (.ref f) ∧ PySem.W.keepIn K (.ref f) = true ∧ Binds K fd ps []
/-- a def that stands at the top under its name -/
structure DefAt (x : Str) (st : Stmt) : Prop where
  ex : ∃ f fd, Fun K x x st f fd ∧ mg x = some (.ref f)
/-- as FnOk, where no repr runs around the call -/
structure FnG (k : Nat) (f : Addr) (fd : FuncData) (ps : List Str) (sp : Sp) : Prop where
  len : ∀ vs H Q E, sp vs H Q E → vs.length = ps.length
  go : ∀ (A : Around) (out : List Env) (s : Shared) (H : Hp) (us : List Value) (vs : List V) (Q : VK), A.guards = some [] → Room k A → Env0 P w K mg base A out s H →
    BindsTo s fd ⟨us, []⟩ (ps.zip us) → Vals vs us → sp vs H Q E0 → codeAny (model P w) A (.call (.ref f) ⟨us, []⟩) (CR CX0 out P w H s Q E0) s
structure HasG (k : Nat) (x : Str) (ps : List Str) (sp : Sp) : Prop where
  ex : ∃ f fd, FnG P w K mg base k f fd ps sp ∧ mg x = some (.ref f) ∧ PySem.W.keepIn K (.ref f) = true ∧ Binds K fd ps []
end
section
variable {P : Program} {w : World} {K : PySem.W.Frag} {mg : Str → Option Value} {base : Heap}
theorem DefAt.has {x : Str} {st : Stmt} {k : Nat} {ps : List Str} {sp : Sp} (D : DefAt K mg x st)
    (hb : ∀ (kV doc pm : Value) (an : Option Addr) (cdv ct : Value) (us : List Value), us.length = ps.length → bindArgs (PySem.W.fnOf x x (defArgs st) (defBody st) (defScope st) .none kV doc pm an cdv ct) ⟨us, []⟩ = pure (ps.zip us))
    (ok : ∀ f fd, Fun K x x st f fd → FnOk P w K mg base CX0 k f fd ps sp) : Has P w K mg base k x ps sp := by
  obtain ⟨f, fd, F, hm⟩ := D.ex
  exact ⟨f, fd, ok f fd F, hm, F.kp, F.binds hb⟩
theorem DefAt.hasG {x : Str} {st : Stmt} {k : Nat} {ps : List Str} {sp : Sp} (D : DefAt K mg x st)
    (hb : ∀ (kV doc pm : Value) (an : Option Addr) (cdv ct : Value) (us : List Value), us.length = ps.length → bindArgs (PySem.W.fnOf x x (defArgs st) (defBody st) (defScope st) .none kV doc pm an cdv ct) ⟨us, []⟩ = pure (ps.zip us))
    (ok : ∀ f fd, Fun K x x st f fd → FnG P w K mg base k f fd ps sp) : HasG P w K mg base k x ps sp := by
  obtain ⟨f, fd, F, hm⟩ := D.ex
  exact ⟨f, fd, ok f fd F, hm, F.kp, F.binds hb⟩
end
section
variable {X : Cx} {k : Nat} {x : Str} {ps : List Str} {sp : Sp} {p pos : Pos} {e : Expr} {es : List Expr} {t : TA}
/-- a call of a def that keeps a promise -/
theorem pe_h (h : Has X.prog X.w X.K X.mg X.base k x ps sp) (hr : Room k X.A) (ha : PA X (e :: es) t) (hg : Gl X x := by rfl) (hdb : (x == ("__debug__" : Str)) = false := by decide)
    (he : starEach (e :: es) X.env = (false, eval e X.env) :: starEach es X.env := by rfl) (hpl : (backTo pos (starEach es X.env)).any (·.1) = false := by rfl) :
    PE X (.Call (.Name x p) (e :: es) [] pos) (tCall sp [] E0 t) := by
  obtain ⟨f, fd, F, hm, hk, hb⟩ := h.ex
  exact pe_call F hr hg hm hk hb .nil pass0 ha hdb he hpl
/-- .. of one that wants that no repr runs around -/
theorem pe_g (h : HasG X.prog X.w X.K X.mg X.base k x ps sp) (hgd : X.A.guards = some []) (hr : Room k X.A) (ha : PA X (e :: es) t) (hg : Gl X x := by rfl) (hdb : (x == ("__debug__" : Str)) = false := by decide)
    (he : starEach (e :: es) X.env = (false, eval e X.env) :: starEach es X.env := by rfl) (hpl : (backTo pos (starEach es X.env)).any (·.1) = false := by rfl) :
    PE X (.Call (.Name x p) (e :: es) [] pos) (tCall sp [] E0 t) := by
  obtain ⟨f, fd, F, hm, hk, hb⟩ := h.ex
  refine ⟨fun pins s σ H Q I q => ?_⟩
  refine wpAny_Call_Name_kw (ld_glob I hg hm ?_ hdb)
  refine PySem.W.callWith_K (h₀ := X.base) I.ok.mod.kin hk (thn (ha.run pos pins s σ H _ I q) fun us s1 hq => ?_) he hpl
  obtain ⟨vs, H1, I1, r, q1⟩ := hq
  have q2 : sp vs H1 Q E0 := by rw [List.append_nil] at q1; exact q1
  refine ⟨I1.kIn, wpAny_call (codeAny_mono (F.go X.A X.stack s1 H1 us vs Q hgd hr I1.env0 ?_ r q2) fun rr s2 z => ?_)⟩
  · have := hb s1 us I1.kIn (by rw [List.append_nil, ← r.length]; exact F.len _ _ _ _ q2)
    rw [List.append_nil] at this; exact this
  · cases rr with
    | error er => exact z.elim
    | ok fl => cases fl with
      | ret u => exact I1.after z
      | next => exact z.elim
      | brk => exact z.elim
      | cont => exact z.elim
end
/-- a def of the text in such surroundings, by its body -/
theorem fun_g {P : Program} {w : World} {K : PySem.W.Frag} {mg : Str → Option Value} {base : Heap} {x qual : Str} {st : Stmt} {f : Addr} {fd : FuncData} {N ps : List Str} {k : Nat} {sp : Sp} (F : Fun K x qual st f fd) (S : FnScope N ps (defScope st))
    (ln : ∀ vs H Q E, sp vs H Q E → vs.length = ps.length)
    (hb : ∀ (cdv : Value) (A : Around) (out : List Env) (s : Shared) (H : Hp) (vs : List V) (Q : VK), A.guards = some [] → Room k (A.deeper (envOfC qual (defScope st) s.heap.objs.size f cdv)) → sp vs H Q E0 →
      ∃ t, PSs (cxOf CX0 P w K mg base N qual (defScope st) f cdv A out s H E0).nox (defBody st) t ∧ t { nx := fun _ H' => Q .non H', rt := Q } (start N vs) H) : FnG P w K mg base (k + 1) f fd ps sp := by
  obtain ⟨oc, od, kV, doc, pm, an, cdv, ct, osl, rfl, lk, hcd⟩ := F.ex
  refine ⟨ln, fun A out s H us vs Q hg hr e0 hbd r q => ?_⟩
  -- the promise at this very place, for the one surrounding A
  let sp1 : Sp := fun vs' H' Q' _ => vs' = vs ∧ H' = H ∧ (∀ v h, Q v h → Q' v h)
  have kin : K.In s.heap := e0.mod.kin.keeps fun b o e => (e0.bs b o e).1
  have lim : s.heap.NoLimit := e0.mod.nolimit.keeps fun b o e => (e0.bs b o e).1
  have hvl : vs.length = ps.length := ln _ _ _ _ q
  have kinds : ∀ y ∈ ps.zip us, (defScope st).names.lookup y.1 = some .local ∨ ((defScope st).names.lookup y.1 = some .cell ∧ ((cellsFrom (s.heap.objs.size + 1) (defScope st).names []).lookup y.1).isSome = true) := by
    intro y hy
    have hm : y.1 ∈ ps := (List.of_mem_zip (a := y.1) (b := y.2) hy).1
    rcases S.par _ hm with z | z
    · exact Or.inl z
    · exact Or.inr ⟨z, PySem.W.cellsFrom_some _ _ _ (Or.inl z)⟩
  refine codeAny_call_function hr.depth (kin _ _ lk) rfl S.co S.gen rfl (PySem.W.codeRec_of kin hcd) (hbd _ _ _ _ ?_)
  refine wpAny_newFunctionEnv_cells S.kind kinds fun env he s1 ic => ?_
  subst he
  refine ⟨lim.keeps ic.toInCall.keep, codeAny_func ?_⟩
  obtain ⟨t, ht, hq⟩ := hb cdv A out s H vs Q hg (hr.deeper _) q
  have J := inv_start (CX := CX0) (E := E0) S hr.hd e0 hvl r ic
  refine wpAny_mono (ht.nox.run [] s1 (start N vs) H _ J hq) (fun fl s2 z => ?_) fun er s2 z => z
  cases fl with
  | ret u => obtain ⟨v, σ2, H2, J2, rv, q2⟩ := z; exact ⟨v, H2, J2.os, J2.bare, J2.base, J2.hok, rv, q2⟩
  | next => obtain ⟨σ2, H2, J2, q2⟩ := z; exact ⟨V.non, H2, J2.os, J2.bare, J2.base, J2.hok, rfl, q2⟩
  | brk => obtain ⟨_, _, _, z2⟩ := z; exact z2.elim
  | cont => obtain ⟨_, _, _, z2⟩ := z; exact z2.elim
/-! ## built-ins that the layer lacks -/
section
variable {X : Cx}
theorem cr_lcm : CallR X (.builtin "math.lcm") (fun vs H Q => ∃ a b : Nat, vs = [.int a, .int b] ∧ a < 2 ^ 31 ∧ b < 2 ^ 31 ∧ Q (.int ((Nat.lcm a b : Nat) : Int)) H) := by
  intro pins s σ H vs us Q I r h
  obtain ⟨a, b, rfl, ha, hb, q⟩ := h
  obtain ⟨t, u, rfl⟩ := Vals.int2 r
  have hl : Nat.lcm a b ≤ a * b := Nat.div_le_self _ _
  have hp : a * b < 2 ^ 62 := by
    rcases Nat.eq_zero_or_pos b with z | z
    · subst z; simp
    · calc a * b < 2 ^ 31 * b := Nat.mul_lt_mul_of_pos_right ha z
        _ ≤ 2 ^ 31 * 2 ^ 31 := Nat.mul_le_mul_left _ (Nat.le_of_lt hb)
        _ = 2 ^ 62 := by decide
  refine PySem.W.mg_lcm_v (c := ((Nat.lcm a b : Nat) : Int)) (by omega) (by omega) (by simp) ?_ ⟨.int _, H, I.tok _, ⟨_, rfl⟩, q⟩
  have h3 : ((Nat.lcm a b : Nat) : Int).natAbs < 2 ^ 62 := by simp; omega
  have h4 : ((Nat.lcm a b : Nat) : Int).natAbs.log2 < 62 ∨ ((Nat.lcm a b : Nat) : Int).natAbs = 0 := by
    by_cases z : ((Nat.lcm a b : Nat) : Int).natAbs = 0
    · exact Or.inr z
    · exact Or.inl ((Nat.log2_lt z).mpr h3)
  rcases h4 with h4 | h4
  · exact Nat.lt_of_lt_of_le h4 (by decide)
  · rw [h4]; decide
end
/-! ## the rules with the written part named (for what stands in a comprehension) -/
section
variable {X : Cx} {K : PySem.W.Frag}
theorem ixL (h : X.K = K) : IxR X (rIxL K) := by subst h; exact ix_list
theorem pg_tupK {es : List Expr} {k : Nat} {t : TGs} {n : Nat} {pos : Pos} (hK : X.K = K) (hc : X.calm = true) (h : PGs X es t)
    (hn : (assignEach es X.env).length = n := by rfl) (hst : (assignEach es X.env).findIdx? (·.1) = none := by rfl) : PG X (.Tuple es k pos) (gTup K n t) := by subst hK; exact pg_tup hc h hn hst
end
theorem pe_ty {X : Cx} {x : Str} {pos : Pos} (n : String) (hm : X.mg x = none) (hg : Gl X x := by rfl) (hv : bootBuiltins x = some (.type n) := by decide +kernel) (hn : x ≠ "__name__" := by decide) (hd : (x == ("__debug__" : Str)) = false := by decide) :
    PE X (.Name x pos) (tC (.ty n)) := pe_bltn hg hm hv rfl hn hd
end Ts
namespace Ts
open PySem PySem.Spec PyProof.Rows L2
/-- the built-in names that the texts use -/
structure Blt0 (mg : Str → Option Value) : Prop where
  zlen : mg "len" = none
  zrange : mg "range" = none
  zabs : mg "abs" = none
  zdivmod : mg "divmod" = none
  zint : mg "int" = none
  zstr : mg "str" = none
  zbool : mg "bool" = none
  zrepr : mg "repr" = none
  zisinstance : mg "isinstance" = none
  ztuple : mg "tuple" = none
  zlist : mg "list" = none
  zdict : mg "dict" = none
  zzip : mg "zip" = none
  zsum : mg "sum" = none
  zall : mg "all" = none
  zmax : mg "max" = none
  zmin : mg "min" = none
  zsorted : mg "sorted" = none
  zset : mg "set" = none
  zenumerate : mg "enumerate" = none
structure Blt (mg : Str → Option Value) : Prop extends Blt0 mg where
  g_gcd : mg "gcd" = some (.builtin "math.gcd")
  g_lcm : mg "lcm" = some (.builtin "math.lcm")
instance {mg : Str → Option Value} : Coe (Blt mg) (Blt0 mg) := ⟨Blt.toBlt0⟩
/-! ## the law's own draws -/
/-- at b: where draws come from -/
def Bas (H : Hp) (b : Addr) : Prop := ∃ x y z : Int, H b = some (.lst [.int x, .int y, .int z])
def spLadle : Sp := fun vs H Q _ => ∃ (b : Addr) (m : Int), vs = [.ref b, .int m] ∧ Bas H b ∧ 0 < m ∧ m < 1073741824 ∧
  ∀ (r : Int) (H' : Hp), 0 ≤ r → r < m → But b H H' → Bas H' b → Q (.int r) H'
/-- a basin made of a script of ints -/
def spBasin (K : PySem.W.Frag) : Sp := fun vs H Q _ => ∃ (a : Addr) (ns : List Int) (i : Nat), vs = [.ref a, .int i] ∧ SqL K H a (ns.map V.int) ∧ ns.length ≤ 63 ∧ i < 63 ∧
  ∀ (b : Addr) (H' : Hp), H b = none → Same H H' → Bas H' b → Q (.ref b) H'
/-- a drawn share -/
def GoodPart (m e p : Nat) : Prop := 1 ≤ e ∧ e ≤ p ∧ p ≤ m ∧ Nat.gcd e p = 1
/-! ## names -/
def IsTag (t : Str) : Prop := 1 ≤ t.length ∧ t.length ≤ 8 ∧ ∀ c ∈ t.cps.toList, 97 ≤ c ∧ c ≤ 122
/-! ## plain lists -/
theorem atI_in {xs : List V} {r : Int} (h0 : 0 ≤ r) (h1 : r < xs.length) : ∃ v, atI xs r = some v ∧ v ∈ xs := by
  obtain ⟨k, rfl⟩ := Int.eq_ofNat_of_zero_le h0
  have hk : k < xs.length := by omega
  exact ⟨xs[k], atI_nat (List.getElem?_eq_getElem hk), List.getElem_mem hk⟩
theorem inV_strs (t : Str) (ts : List Str) : inV (.str t) (ts.map V.str) = decide (t ∈ ts) := by
  unfold inV
  rw [Bool.eq_iff_iff, List.any_map]
  simp only [List.any_eq_true, Function.comp, eqV, beq_iff_eq, decide_eq_true_eq]
  constructor
  · rintro ⟨x, h, e⟩; rw [← e]; exact h
  · intro h; exact ⟨t, h, rfl⟩
theorem flat_strs (ts : List Str) : (ts.map V.str).all flatV = true := by
  rw [List.all_map]; simp [Function.comp, flatV]
theorem map_take_succ {α β : Type} (f : α → β) {l : List α} {i : Nat} {x : α} (h : l[i]? = some x) : (l.take (i + 1)).map f = (l.take i).map f ++ [f x] := by
  rw [List.take_add_one, h, List.map_append]; rfl
/-- what grows at a new place: what stood ahead of it stands -/
theorem Same.app {H0 H1 : Hp} {D : Addr} {o : HO} (h0 : H0 D = none) (s : Same H0 H1) : Same H0 (upd H1 D o) := fun a u e => by
  rw [upd_ne (ne_of_none e h0)]; exact s a u e
theorem abc_has {c : Nat} (h : 97 ≤ c ∧ c ≤ 122) : c ∈ (Str.ofString "abcdefghijklmnopqrstuvwxyz").cps.toList := by
  have e : (Str.ofString "abcdefghijklmnopqrstuvwxyz").cps.toList = (List.range 26).map (97 + ·) := by decide +kernel
  rw [e]
  exact List.mem_map.mpr ⟨c - 97, List.mem_range.mpr (by omega), by omega⟩
end Ts
namespace Ts
open PySem PySem.Spec PyProof.Rows L2
/-! ## works -/
abbrev Job := Str × Nat × Nat
def partD (e p : Nat) : PyData := .tuple [.int (e : Int), .int (p : Int)]
def jobD (j : Job) : PyData := .tuple [.str j.1, partD j.2.1 j.2.2]
def jobsD (js : List Job) : PyData := .list (js.map jobD)
/-- works with names of their own and shares up to d -/
structure Good (d : Nat) (js : List Job) : Prop where
  nd : (js.map (·.1)).Nodup
  tag : ∀ j ∈ js, IsTag j.1
  part : ∀ j ∈ js, GoodPart d j.2.1 j.2.2
/-! ## the text of a lot -/
def numS (n : Nat) : Str := Str.ofString (toString ((n : Nat) : Int))
def nlS : Str := Str.ofString "\n"
def rowS (j : Job) : Str := Str.ofString "work " ++ j.1 ++ Str.ofString " " ++ numS j.2.1 ++ Str.ofString "/" ++ numS j.2.2
def handsS (n : Nat) : Str := Str.ofString "hands " ++ numS n
def rowsOf (n : Nat) (js : List Job) : List Str := handsS n :: js.map rowS
def pageS (n : Nat) (js : List Job) : Str := Txt.join nlS (rowsOf n js)
theorem numS_tl (n : Nat) : TL.tl (numS n) = TL.numL n := TL.tl_num n
theorem numS_len {n : Nat} (h : n ≤ 1000) : (numS n).length ≤ 4 := by
  rw [TL.len_tl, numS_tl]
  exact TL.numL_len (by decide) (show n < 10 ^ 4 by omega)
theorem rowS_len {j : Job} (ht : IsTag j.1) (hp : GoodPart 1000 j.2.1 j.2.2) : (rowS j).length ≤ 23 := by
  obtain ⟨h1, h2, h3, h4⟩ := hp
  have a := numS_len (n := j.2.1) (by omega)
  have b := numS_len (n := j.2.2) (by omega)
  have c := ht.2.1
  have e1 : (Str.ofString "work ").length = 5 := by decide
  have e2 : (Str.ofString " ").length = 1 := by decide
  have e3 : (Str.ofString "/").length = 1 := by decide
  unfold rowS
  rw [Str.length_append, Str.length_append, Str.length_append, Str.length_append, Str.length_append, e1, e2, e3]
  omega
theorem Good.mono {d d' : Nat} {js : List Job} (g : Good d js) (h : d ≤ d') : Good d' js :=
  ⟨g.nd, g.tag, fun j hj => let ⟨a, b, c, e⟩ := g.part j hj; ⟨a, b, Nat.le_trans c h, e⟩⟩
theorem _root_.L2.DpAll.snoc {K : PySem.W.Frag} {H : Hp} {vs : List V} {ds : List PyData} {v : V} {d : PyData} (h : DpAll K H vs ds) (g : Dp K H v d) : DpAll K H (vs ++ [v]) (ds ++ [d]) := h.append (.cons g .nil)
end Ts
namespace Ts
open PySem PySem.Spec PyProof.Rows L2
/-! ## tuple(what a dict gives) -/
section
variable {prog : Program} {w : World} {A : Around} {E : Value → Shared → Prop} {s : Shared} {T : String} {r d : Addr} {n : Nat} {C : Nat → Value → Prop} {OK : Heap → Prop}
theorem tuple_code {R : Value → Shared → Prop} (S : PySem.W.KdlSrc prog w T r d n C OK) (hh : A.handled = none) (ok : OK s.heap) (hn : n ≤ sizeLine)
    (h : ∀ (h' : Heap) (tk : Nat) (acc : Array Value), (∀ b o, s.heap.get? b = some o → h'.get? b = some o) → ItemsOf C acc n → R (.ref h'.objs.size) { s with heap := h'.push { cls := .type "tuple", data := .seq acc }, toks := tk }) :
    codeAny (model prog w) A (.call (.builtin "tuple.__new__") ⟨[.type "tuple", .ref r], []⟩) (wants R E) s := by
  refine codeAny_of_tree (show wpAny _ A.in1 (checkBuiltinCall "tuple.__new__" ⟨[.type "tuple", .ref r], []⟩ >>= fun _ => again (.builtin "tuple.__new__" ⟨[.type "tuple", .ref r], []⟩)) _ _ s from ?_)
  refine wpAny_bind (wpAny_of_eq (F.newCall_tuple_1 _) (wpAny_pure (And.intro (plainId_quiet F.plain_tuple_new _) (codeAny_builtin F.entry_tuple_new ?_))))
  rw [Around.under_plainId F.plain_tuple_new _]
  have e1 := sub_tuple_self
  have e2 := init_tuple_lookup
  have e3 := madeHere_tuple
  have tI := S.type s ok
  have n1 := S.notTuple
  have n2 := S.notList
  have hh1 : A.in1.handled = none := hh
  wp_walk using wpAny_typeOf tI, PySem.W.kdu_collect (A := A.in1) S hh1 ok hn
  intro h' tk acc hk hacc
  show wpAny _ _ ((Builtin.Tuple.tupleExact acc.toList.toArray).bind fun v => ret v) _ _ _
  unfold Builtin.Tuple.tupleExact
  have ea : acc.toList.toArray = acc := by simp
  refine wpAny_bind (wpAny_newObj_type (wpAny_pure ?_) (by rw [ea]; show acc.size ≤ sizeLine; rw [hacc.1]; exact hn))
  rw [ea]
  exact h h' tk acc hk hacc
theorem tuple_src {Q : Value → Shared → Prop} (S : PySem.W.KdlSrc prog w T r d n C OK) (hh : A.handled = none) (ok : OK s.heap) (hn : n ≤ sizeLine)
    (hQ : ∀ (h' : Heap) (tk : Nat) (acc : Array Value), (∀ b o, s.heap.get? b = some o → h'.get? b = some o) → ItemsOf C acc n → Q (.ref h'.objs.size) { s with heap := h'.push { cls := .type "tuple", data := .seq acc }, toks := tk }) :
    wpAny (model prog w) A (call (.type "tuple") [.ref r]) Q E s := by
  refine callType_codes (Q₁ := fun ob s1 => s1.TypeIs ob "tuple" ∧ Q ob s1) F.called_tuple (F.typeCall_tuple_1 _) F.entry_object_init
    (tuple_code (A := A.in1) S hh ok hn fun h' tk acc k1 k2 => And.intro ⟨_, Heap.get?_push_size _ rfl, rfl⟩ (hQ h' tk acc k1 k2)) fun ob s1 z => ?_
  exact And.intro z.1 (And.intro (F.args_object_init_2 ob _) (object_init_meets F.called_tuple.init.lookup F.called_tuple.made (by decide) prog w A.in1 _ s1 (And.intro z.1 (And.intro rfl z.2))))
end
section
variable {X : Cx} {p pos apos cpos : Pos} {e : Expr} {td : TE}
theorem call_tuple_dK (hc : X.calm = true) : CallR X (.type "tuple") (fun xs H Q => ∃ d kvs, xs = [.ref d] ∧ H d = some (.dK kvs) ∧ ∀ q ob, H q = none → ob.cls = .type "tuple" → ob.dict = none → Q (.ref q) (upd H q (.frz ob (.tup (kvs.map fun kv => kV kv.1))))) := by
  intro pins s σ H xs us Q I r h
  obtain ⟨d, kvs, rfl, hd, q⟩ := h
  obtain ⟨u, rfl, ru⟩ := vals1 r
  obtain rfl : u = Value.ref d := ru
  obtain ⟨z, lo, vs, rk, dd⟩ := (show ObjOk X.prog X.w H s.heap d (.dK kvs) from I.hok d _ hd)
  obtain ⟨ep, dat⟩ := dd.dictAt
  have hl : kvs.length = vs.length := Paired.length rk
  refine tuple_src (PySem.W.kdl_dict (knd := mixKind X.prog X.w) (kvs := vs) (ep := ep) lo) (I.ok.hd hc) dat (by omega) fun h' tk acc k1 k2 => ?_
  have J : Inv X pins σ H { s with heap := h', toks := tk } := I.kept k1
  have al : acc.toList.length = acc.size := by simp
  have rv : Vals (kvs.map fun kv => kV kv.1) acc.toList := by
    refine vals_of_at (by rw [List.length_map, al, k2.1, hl]) fun j x u h1 h2 => ?_
    obtain ⟨k, y, e1, e2⟩ := k2.2 j u (by rw [← Array.getElem?_toList]; exact h2)
    have e3 : (kvs.map (·.1))[j]? = some k := by rw [KV.keys rk, List.getElem?_map, e1]; rfl
    rw [List.getElem?_map] at e3 h1
    cases e4 : kvs[j]? with
    | none => rw [e4] at e3; cases e3
    | some kv =>
      rw [e4] at e3 h1
      have e5 : kv.1 = k := Option.some.inj e3
      have e6 : kV kv.1 = x := Option.some.inj h1
      rw [← e6, e5]
      exact keyIs_rel e2
  refine ⟨.ref h'.objs.size, upd H h'.objs.size (.frz { cls := .type "tuple", data := .seq acc } (.tup (kvs.map fun kv => kV kv.1))), J.laid (t' := tk) (fun b o z => Heap.get?_push_of_some _ z) (Nat.le_refl _) ⟨Heap.get?_push_size _ rfl, by rw [List.length_map]; exact z, acc.toList, rv, ?_⟩, rfl, q _ _ (J.hok.fresh (Nat.le_refl _)) rfl rfl⟩
  rw [Array.toArray_toList]
  exact ⟨_, Heap.get?_push_size _ rfl, rfl, _, rfl⟩
/-- tuple(e.values()) -/
def tTupVals (td : TE) : TE := fun σ H Q => td σ H fun x H1 => ∃ d kvs, x = .ref d ∧ H1 d = some (.dK kvs) ∧ ∀ q, H1 q = none → Q (.ref q) (upd H1 q (.tup (kvs.map (·.2))))
theorem pe_tupVals (hc : X.calm = true) (hg : Gl X "tuple") (hm : X.mg "tuple" = none) (he : PE X e td) (hbase : attributeBase e "values" X.env (eval e X.env) = eval e X.env := by rfl) (hline : (apos.endLine == cpos.line) = true := by rfl)
    (hse : starEach [Expr.Call (.Attribute e "values" apos) [] [] cpos] X.env = [(false, eval (Expr.Call (.Attribute e "values" apos) [] [] cpos) X.env)] := by rfl) :
    PE X (.Call (.Name "tuple" p) [.Call (.Attribute e "values" apos) [] [] cpos] [] pos) (tTupVals td) := by
  refine ⟨fun pins s σ H Q I h => ?_⟩
  refine Call_ (ld_blt I hg hm boot_tuple (PyProof.Rows.callWith_type1 (args_cons ?_ hse) hse))
  refine wpAny_Call_method0_late hbase hline (thn (he.run pins s σ H _ I h) fun v s1 ⟨x, H1, I1, r1, d, kvs, ex, hd, q⟩ => ?_)
  subst ex
  obtain rfl : v = Value.ref d := r1
  obtain ⟨z, hsys, vs, rel, dof⟩ := dk_of I1.hok hd
  obtain ⟨ep, dat⟩ := dof.dictAt
  obtain ⟨ob, es, ho, ex, hdat, hko, hpr, hnd⟩ := id dat
  refine ⟨"dict", "dict.values", F.plainAttrs_dict, F.slot_dict_values, F.type_dict_values, ⟨ob, ho, ex.1⟩, fun b e => ?_, Calls.callWith_builtin rfl (PySem.evalArgs_none ?_)⟩
  · cases e
    exact ⟨ob, ho, ex.2.1⟩
  refine call_meetsIn F.slot_dict_values ⟨ob, ho, ex.1⟩ F.entry_dict_values (F.args_dict_values_1 _) (meets_dict_values (mixKind X.prog X.w) d hsys) (And.intro ⟨vs, dof⟩ ?_)
  -- the view stands at the next address
  have I2 : Inv X pins σ H1 { s1 with heap := s1.heap.push { cls := .type "dict_values", data := .fields #[.ref d] } } := I1.kept (t' := s1.toks) fun b u z => Heap.get?_push_of_some _ z
  have dat2 : (s1.heap.push { cls := .type "dict_values", data := .fields #[.ref d] }).DictAt (mixKind X.prog X.w) d vs ep := dat.keep fun b u z => Heap.get?_push_of_some _ z
  have hl : kvs.length = vs.length := KV.length rel
  refine args_nil (tuple_src (PySem.W.kdl_values (knd := mixKind X.prog X.w) (kvs := vs) (ep := ep) (d := d) (r := s1.heap.objs.size)) (I.ok.hd hc) (And.intro ⟨_, Heap.get?_push_size _ rfl, rfl, rfl⟩ dat2) (by omega) fun h' tk acc k1 k2 => ?_)
  have J : Inv X pins σ H1 { s1 with heap := h', toks := tk } := I2.kept k1
  have al : acc.toList.length = acc.size := by simp
  have rv : Vals (kvs.map (·.2)) acc.toList := by
    refine vals_of_at (by rw [List.length_map, al, k2.1, hl]) fun j y u h1 h2 => ?_
    obtain ⟨k, e1⟩ := k2.2 j u (by rw [← Array.getElem?_toList]; exact h2)
    obtain ⟨y', e2, e3⟩ := KV.at' rel e1
    rw [List.getElem?_map, e2] at h1
    have e6 : y' = y := Option.some.inj h1
    rw [← e6]; exact e3
  refine ⟨.ref h'.objs.size, upd H1 h'.objs.size (.tup (kvs.map (·.2))), J.laid (t' := tk) (fun b o z => Heap.get?_push_of_some _ z) (Nat.le_refl _) ⟨by rw [List.length_map]; exact z, acc.toList, rv, ?_⟩, rfl, q _ (J.hok.fresh (Nat.le_refl _))⟩
  rw [Array.toArray_toList]
  exact ⟨_, Heap.get?_push_size _ rfl, rfl, _, rfl⟩
/-- all(a list of truths) -/
theorem call_allB (hc : X.calm = true) : CallR X (.builtin "all") (fun xs H Q => ∃ (a : Addr) (bs : List Bool), xs = [.ref a] ∧ SqL X.K H a (bs.map V.bl) ∧ Q (.bl (bs.all id)) H) := by
  intro pins s σ H xs us Q I r h
  obtain ⟨a, bs, rfl, hs, q⟩ := h
  obtain ⟨u, rfl, ru⟩ := vals1 r
  obtain rfl : u = Value.ref a := ru
  obtain ⟨its, rv, pl, hz⟩ := I.list hs
  have al : a < s.heap.objs.size := by obtain ⟨o, n, e, _⟩ := pl; exact Heap.lt_size e
  have len : its.length = bs.length := by rw [← rv.length, List.length_map]
  have W := Walks.list (prog := X.prog) (w := X.w) (A := X.A.in1) (I.ok.hd hc) s.heap.objs.size a (Nat.ne_of_lt al) its.toArray
  refine call_all_walk (wpAny_pyIter_list pl.isList ?_)
  refine ⟨s.heap.objs.size, _, _, its.toArray.size, _, _, fun i => bs.getD i true, rfl, W, (show Heap.IsListIter (s.heap.push _) s.heap.objs.size a 0 ∧ Heap.IsList (s.heap.push _) a its.toArray from And.intro ⟨_, Heap.get?_push_size _ rfl, rfl, rfl⟩ (pl.isList.push _)), ?_, fun h' tk hk => ?_⟩
  · intro i v s2 Q2 E2 hv hq
    have hv' : its[i]? = some v := by simpa using hv
    have hi : i < bs.length := by rw [← len]; exact (List.getElem?_eq_some_iff.mp hv').1
    obtain ⟨u2, e1, e2⟩ := rv.get (i := i) (x := V.bl bs[i]) (by rw [List.getElem?_map, List.getElem?_eq_getElem hi]; rfl)
    rw [hv'] at e1
    have e3 : v = u2 := Option.some.inj e1
    subst e3
    obtain rfl : v = Value.bool bs[i] := e2
    have e4 : bs.getD i true = bs[i] := by rw [List.getD_eq_getElem?_getD, List.getElem?_eq_getElem hi]; rfl
    have hq2 : Q2 (bs.getD i true) s2 := hq
    rw [e4] at hq2
    exact wpAny_truthy_bool hq2
  · have J : Inv X pins σ H { s with heap := h', toks := tk } := I.kept fun b o z => hk b o (fun m => absurd (Heap.lt_size z) (by rw [List.mem_singleton.mp m]; exact Nat.lt_irrefl _)) (Heap.get?_push_of_some _ z)
    refine ⟨.bl _, H, J, ?_, q⟩
    show Value.bool _ = Value.bool _
    congr 1
    have ls : its.toArray.size = bs.length := by simp [len]
    rw [ls, Bool.eq_iff_iff]
    simp only [List.all_eq_true, List.mem_range]
    constructor
    · intro z b hb
      obtain ⟨i, hi, e⟩ := List.mem_iff_getElem.mp hb
      have := z i hi
      rw [List.getD_eq_getElem?_getD, List.getElem?_eq_getElem hi] at this
      rw [← e]; exact this
    · intro z i hi
      rw [List.getD_eq_getElem?_getD, List.getElem?_eq_getElem hi]
      exact z _ (List.getElem_mem hi)
/-- first, *rest = a list that is not empty: rest is a new list -/
def gStar (K : PySem.W.Frag) (i j : Nat) : TG := fun v σ H Q => ∃ a x xs, v = .ref a ∧ SqL K H a (x :: xs) ∧ xs.length ≤ 16000 ∧ ∀ p, H p = none → Q ((σ.set i (some x)).set j (some (.ref p))) (upd H p (.lst xs))
theorem pg_star {i j : Nat} {x y : Str} {k : Nat} {px py ps tp : Pos} (hc : X.calm = true) (hN : X.N.Nodup) (hi : X.N[i]? = some x) (hj : X.N[j]? = some y) (hx : X.env.scope.names.lookup x = some .local) (hy : X.env.scope.names.lookup y = some .local)
    (he : assignEach [.Name x px, .Starred (.Name y py) ps] X.env = [(false, assign (.Name x px) X.env), (true, assign (.Name y py) X.env)] := by rfl) :
    PG X (.Tuple [.Name x px, .Starred (.Name y py) ps] k tp) (gStar X.K i j) := by
  refine ⟨fun pins s σ H v u Q I r hw => ?_⟩
  obtain ⟨a, z, zs, rfl, hs, hz, q⟩ := hw
  obtain rfl : u = Value.ref a := r
  obtain ⟨its, rv, pl, _⟩ := I.list hs
  cases rv with
  | @cons _ w1 _ ws r1 rr =>
    have wl : ws.length = zs.length := rr.length.symm
    have L : s.heap.IsList a (w1 :: ws).toArray := pl.isList
    have al : a < s.heap.objs.size := by obtain ⟨o, ho, _⟩ := L; exact Heap.lt_size ho
    rw [PyProof.Rows.assign_Tuple]
    refine wpAny_bind (wpAny_standAt ?_)
    unfold unpack
    rw [he]
    show wpAny _ _ (holding [Value.ref a] (unpackItems (.ref a) 2 (some 1)) >>= fun vs => assignInOrder [assign (.Name x px) X.env, assign (.Name y py) X.env] vs) _ _ s
    refine wpAny_bind (wpAny_holding ?_)
    unfold unpackItems
    refine wpAny_bind (show wpAny _ _ (notIterableAtAll (.ref a)) _ _ _ from ?_)
    unfold notIterableAtAll
    refine wpAny_bind (wpAny_specialOf L.typeIs slot_list_iter.lookup (wpAny_pure ?_))
    simp only [Bool.false_eq_true, if_false]
    refine wpAny_bind (wpAny_holding (wpAny_pyIter_list L (wpAny_bind (wpAny_holding ?_))))
    refine PySem.W.kun_draw (Nat.ne_of_lt al) 1 0 _ _ ⟨_, Heap.get?_push_size _ rfl, rfl, rfl⟩ (L.push _) (by simp) fun h1 t1 s1 => ?_
    have L1 : h1.IsList a (w1 :: ws).toArray := (L.push _).extBut s1.extBut (Nat.ne_of_lt al)
    have t1' : h1.IsListIter s.heap.objs.size a 1 := t1
    have l1 : s.heap.objs.size < h1.objs.size := by obtain ⟨o, ho, _⟩ := t1'; exact Heap.lt_size ho
    have l2 : a < h1.objs.size := by obtain ⟨o, ho, _⟩ := L1; exact Heap.lt_size ho
    have sz : (w1 :: ws).toArray.size = ws.length + 1 := by simp
    show wpAny _ _ (if ([w1] : List Value).length < 1 then _ else _) _ _ _
    rw [if_neg (show ¬ ([w1] : List Value).length < 1 from Nat.lt_irrefl 1)]
    have W := Walks.list (prog := X.prog) (w := X.w) (A := X.A.in1) (I.ok.hd hc) s.heap.objs.size a (Nat.ne_of_lt al) (w1 :: ws).toArray
    refine wpAny_bind (wpAny_holding (PySem.W.kun_collect (T := "list_iterator") (.inr (.inr (.inl rfl))) W (fun j u st => st.1.typeIs) (k := 1) (by rw [sz]; omega) (And.intro t1' L1) l1 l2 (fun h2 tk hk => ?_) (by rw [sz, sizeLine_eq]; omega)))
    have dr : (w1 :: ws).toArray.toList.drop 1 = ws := by simp
    rw [dr]
    show wpAny _ _ (if ws.length < 0 then _ else _) _ _ _
    rw [if_neg (Nat.not_lt_zero _)]
    show wpAny _ _ (newList (ws.take (ws.length - 0)) >>= fun d => pure ([w1] ++ [d] ++ ws.drop (ws.length - 0))) _ _ _
    rw [Nat.sub_zero, List.take_length, List.drop_length]
    have I1 : Inv X pins σ H { s with heap := h2, toks := tk } := I.kept fun b o e => hk b o (Nat.ne_of_lt (Heap.lt_size e)) (s1.extBut b o (Nat.ne_of_lt (Heap.lt_size e)) (Heap.get?_push_of_some _ e))
    refine wpAny_bind (show wpAny _ _ (newList ws) _ _ _ from wpAny_newObj_type (wpAny_pure ?_) (by show ws.toArray.size ≤ sizeLine; rw [List.size_toArray, sizeLine_eq]; omega))
    have hp := I1.hok.fresh (Nat.le_refl h2.objs.size)
    have I2 : Inv X pins σ (upd H h2.objs.size (.lst zs)) { s with heap := h2.push { cls := .type "list", data := .seq ws.toArray }, toks := tk } :=
      I1.laid (t' := tk) (fun b o e => Heap.get?_push_of_some _ e) (Nat.le_refl _) ⟨by rw [sizeLine_eq]; omega, ws, 0, rr, Heap.get?_push_size _ rfl⟩
    show wpAny _ _ (assignInOrder [assign (.Name x px) X.env, assign (.Name y py) X.env] [w1, Value.ref h2.objs.size]) _ _ _
    refine assignInOrder_cons (wpAny_assign_Name (store_ok I2 hN hi (.inl hx) r1 (fun s3 I3 => ?_) (.inr hx)))
    refine assignInOrder_cons (wpAny_assign_Name (store_ok (v := V.ref h2.objs.size) I3 hN hj (.inl hy) rfl (fun s4 I4 => assignInOrder_nil ⟨_, _, I4, q _ hp⟩) (.inr hy)))
end
end Ts
namespace Ts
open PySem PySem.Spec PyProof.Rows L2
/-! ## constants of the text -/
section
variable {X : Cx} {x y : Str} {i : Int} {pos : Pos}
theorem pe_gint (h : ∃ t, X.mg x = some (.int i t)) (hg : Gl X x := by rfl) (hd : (x == ("__debug__" : Str)) = false := by decide) : PE X (.Name x pos) (tC (.int i)) := by
  obtain ⟨t, h⟩ := h
  exact pe_glob hg h ⟨t, rfl⟩ hd
theorem pe_gstr (h : ∃ t, X.mg x = some (.str y t)) (hg : Gl X x := by rfl) (hd : (x == ("__debug__" : Str)) = false := by decide) : PE X (.Name x pos) (tC (.str y)) := by
  obtain ⟨t, h⟩ := h
  exact pe_glob hg h ⟨t, rfl⟩ hd
end
structure Cst (mg : Str → Option Value) : Prop where
  MOST_WORKS : ∃ t, mg "MOST_WORKS" = some (.int 6 t)
  MOST_HANDS : ∃ t, mg "MOST_HANDS" = some (.int 6 t)
  MOST_PERIOD : ∃ t, mg "MOST_PERIOD" = some (.int 16 t)
  LONGEST_NAME : ∃ t, mg "LONGEST_NAME" = some (.int 8 t)
  LETTERS : ∃ t, mg "LETTERS" = some (.str (Str.ofString "abcdefghijklmnopqrstuvwxyz") t)
/-! ## plain values -/
def spIsNumber : Sp := fun vs H Q _ => ∃ (v lo hi : Int), vs = [.int v, .int lo, .int hi] ∧ Q (.bl (decide (lo ≤ v ∧ v ≤ hi))) H
def spIsNumberFrom : Sp := fun vs H Q _ => ∃ (v lo : Int), vs = [.int v, .int lo] ∧ Q (.bl (decide (lo ≤ v))) H
def spIsName : Sp := fun vs H Q _ => ∃ (t : Str), vs = [.str t] ∧ IsTag t ∧ ∀ H', Same H H' → Q (.bl true) H'
def spIsShare : Sp := fun vs H Q _ => ∃ (q : Addr) (e p : Nat), vs = [.ref q] ∧ H q = some (.tup [.int (e : Int), .int (p : Int)]) ∧ GoodPart 16 e p ∧ Q (.bl true) H
/-! ## texts read -/
def spReadNumber : Sp := fun vs H Q _ => ∃ (n m : Nat), vs = [.str (numS n), .int m] ∧ 1 ≤ n ∧ n ≤ m ∧ m ≤ 1000 ∧ Q (.int n) H
def spReadHands : Sp := fun vs H Q _ => ∃ (n : Nat), vs = [.str (handsS n)] ∧ 1 ≤ n ∧ n ≤ 6 ∧ ∀ H', Same H H' → Q (.int n) H'
def spReadWork : Sp := fun vs H Q _ => ∃ (j : Job), vs = [.str (rowS j)] ∧ IsTag j.1 ∧ GoodPart 16 j.2.1 j.2.2 ∧
  ∀ (p q : Addr) H', Same H H' → H' p = some (.tup [.str j.1, .ref q]) → H' q = some (.tup [.int (j.2.1 : Int), .int (j.2.2 : Int)]) → Q (.ref p) H'
/-- a dict with the works' names and shares -/
def KvsOf (K : PySem.W.Frag) (H : Hp) (kvs : List (Key × V)) (js : List Job) : Prop := kvs.map (·.1) = js.map (fun j => (Sum.inr j.1 : Key)) ∧ DpAll K H (kvs.map (·.2)) (js.map fun j => partD j.2.1 j.2.2)
def spReadWorks (K : PySem.W.Frag) : Sp := fun vs H Q _ => ∃ (a : Addr) (js : List Job), vs = [.ref a] ∧ SqL K H a ((js.map rowS).map V.str) ∧ Good 16 js ∧ js.length ≤ 20 ∧
  ∀ (d : Addr) (kvs : List (Key × V)) (H' : Hp), Same H H' → H d = none → H' d = some (.dK kvs) → KvsOf K H' kvs js → Q (.ref d) H'
/-! ## totals -/
def spanN (js : List Job) : Nat := js.foldl (fun s j => Nat.lcm s j.2.2) 1
def partsN (js : List Job) (s : Nat) : Nat := (js.map fun j => j.2.1 * (s / j.2.2)).sum
def totTop (js : List Job) : Nat := partsN js (spanN js) / Nat.gcd (partsN js (spanN js)) (spanN js)
def totBot (js : List Job) : Nat := spanN js / Nat.gcd (partsN js (spanN js)) (spanN js)
def sharesD (js : List Job) : List PyData := js.map fun j => partD j.2.1 j.2.2
def namesD (js : List Job) : List PyData := js.map fun j => .str j.1
def spSpanOf (K : PySem.W.Frag) : Sp := fun vs H Q _ => ∃ (a : Addr) (xs : List V) (js : List Job), vs = [.ref a] ∧ SqT K H a xs ∧ DpAll K H xs (sharesD js) ∧ Good 16 js ∧ ∀ H', Same H H' → Q (.int (spanN js)) H'
def spTotalOf (K : PySem.W.Frag) : Sp := fun vs H Q _ => ∃ (a : Addr) (xs : List V) (js : List Job), vs = [.ref a, .int (spanN js)] ∧ SqT K H a xs ∧ DpAll K H xs (sharesD js) ∧ Good 16 js ∧ js.length ≤ 20 ∧
  ∀ (p : Addr) H', Same H H' → H p = none → H' p = some (.tup [.int (totTop js : Int), .int (totBot js : Int)]) → Q (.ref p) H'
theorem dvd_big {p : Nat} (h0 : 1 ≤ p) (h1 : p ≤ 16) : p ∣ 720720 := by
  have : ∀ q : Fin 17, 1 ≤ q.val → q.val ∣ 720720 := by decide +kernel
  exact this ⟨p, by omega⟩ h0
theorem span_dvd_go : ∀ (js : List Job) (s : Nat), s ∣ 720720 → (∀ j ∈ js, GoodPart 16 j.2.1 j.2.2) → js.foldl (fun s j => Nat.lcm s j.2.2) s ∣ 720720
  | [], s, h, _ => h
  | j :: js, s, h, g => by
    obtain ⟨a, b, c, _⟩ := g j List.mem_cons_self
    exact span_dvd_go js _ (Nat.lcm_dvd h (dvd_big (by omega) c)) fun k hk => g k (List.mem_cons_of_mem _ hk)
theorem span_dvd {js : List Job} (g : Good 16 js) : spanN js ∣ 720720 := span_dvd_go js 1 (Nat.one_dvd _) g.part
theorem span_pos {js : List Job} (g : Good 16 js) : 0 < spanN js := Nat.pos_of_dvd_of_pos (span_dvd g) (by decide)
theorem span_le {js : List Job} (g : Good 16 js) : spanN js ≤ 720720 := Nat.le_of_dvd (by decide) (span_dvd g)
theorem dvd_span_go : ∀ (js : List Job) (s : Nat), s ∣ js.foldl (fun s j => Nat.lcm s j.2.2) s ∧ ∀ j ∈ js, j.2.2 ∣ js.foldl (fun s j => Nat.lcm s j.2.2) s
  | [], s => ⟨Nat.dvd_refl _, by simp⟩
  | k :: js, s => by
    obtain ⟨h1, h2⟩ := dvd_span_go js (Nat.lcm s k.2.2)
    refine ⟨Nat.dvd_trans (Nat.dvd_lcm_left _ _) h1, fun j hj => ?_⟩
    rcases List.mem_cons.mp hj with rfl | hj
    · exact Nat.dvd_trans (Nat.dvd_lcm_right _ _) h1
    · exact h2 j hj
theorem dvd_span {js : List Job} {j : Job} (h : j ∈ js) : j.2.2 ∣ spanN js := (dvd_span_go js 1).2 j h
/-! ## a lot -/
def lotF (t : Str) (n : Int) (pn ps : Addr) (sp : Int) (pt : Addr) : List (Str × V) :=
  putF "_total" (.ref pt) (putF "_span" (.int sp) (putF "_shares" (.ref ps) (putF "_names" (.ref pn) (putF "_hands" (.int n) (putF "_text" (.str t) [])))))
/-- the names, in a tuple that has no dict -/
def NamesAt (H : Hp) (pn : Addr) (js : List Job) : Prop := ∃ ob : Obj, H pn = some (.frz ob (.tup (js.map fun j => V.str j.1))) ∧ ob.cls = .type "tuple" ∧ ob.dict = none
theorem NamesAt.mono {H H' : Hp} {pn : Addr} {js : List Job} (h : NamesAt H pn js) (s : Same H H') : NamesAt H' pn js := by
  obtain ⟨ob, h1, h2⟩ := h
  exact ⟨ob, s _ _ h1, h2⟩
theorem names_strs (js : List Job) : (js.map fun j => V.str j.1) = (js.map (·.1)).map V.str := by rw [List.map_map]; rfl
theorem NamesAt.seq {K : PySem.W.Frag} {H : Hp} {pn : Addr} {js : List Job} (h : NamesAt H pn js) : SqT K H pn ((js.map (·.1)).map V.str) := by
  obtain ⟨ob, h1, h2⟩ := h
  rw [names_strs] at h1
  exact .inl (.inr ⟨ob, h1⟩)
theorem NamesAt.dp {K : PySem.W.Frag} {H : Hp} {pn : Addr} {js : List Job} (h : NamesAt H pn js) : Dp K H (.ref pn) (.tuple (namesD js)) := by
  have ew : namesD js = (js.map (·.1)).map PyData.str := by unfold namesD; rw [List.map_map]; rfl
  rw [ew]
  exact .tup h.seq (DpAll.strs _)
structure LotAt (K : PySem.W.Frag) (C : Addr) (H : Hp) (a : Addr) (n : Nat) (js : List Job) : Prop where
  ex : ∃ dx pn ps pt, H a = some (.ins C dx (lotF (pageS n js) n pn ps (spanN js) pt)) ∧ NamesAt H pn js ∧ Dp K H (.ref ps) (.tuple (sharesD js)) ∧ Dp K H (.ref pt) (partD (totTop js) (totBot js))
theorem LotAt.mono {K : PySem.W.Frag} {C : Addr} {H H' : Hp} {a : Addr} {n : Nat} {js : List Job} (L : LotAt K C H a n js) (s : Same H H') : LotAt K C H' a n js := by
  obtain ⟨dx, pn, ps, pt, h1, h2, h3, h4⟩ := L.ex
  exact ⟨dx, pn, ps, pt, s _ _ h1, h2.mono s, h3.mono s, h4.mono s⟩
def spInit (K : PySem.W.Frag) (C : Addr) : Sp := fun vs H Q _ => ∃ (a dx : Addr) (n : Nat) (js : List Job), vs = [.ref a, .str (pageS n js)] ∧ H a = some (.ins C dx []) ∧ 1 ≤ n ∧ n ≤ 6 ∧ Good 16 js ∧ 0 < js.length ∧ js.length ≤ 6 ∧
  ∀ H', But a H H' → LotAt K C H' a n js → Q .non H'
/-! ## texts read back -/
theorem num_okI {z : Int} (h0 : 0 ≤ z) (h : z ≤ 1000) : z.natAbs.log2 < 1920 := by
  by_cases e : z.natAbs = 0
  · rw [e]; decide
  · exact Nat.lt_trans ((Nat.log2_lt e).mpr (show z.natAbs < 2 ^ 10 by omega)) (by decide)
theorem numS_inj {m n : Nat} (h : numS m = numS n) : m = n := by
  refine TL.numL_inj ?_
  rw [← numS_tl, ← numS_tl, h]
theorem numS_free {n s : Nat} (h : s < 48 ∨ 57 < s) : s ∉ TL.tl (numS n) := by
  rw [numS_tl]; exact TL.numL_free h
theorem sp_tl : TL.tl (Str.ofString " ") = [32] := by decide
theorem nl_tl : TL.tl nlS = [10] := by decide
theorem sl_tl : TL.tl (Str.ofString "/") = [47] := by decide
theorem tag_free {t : Str} (h : IsTag t) {s : Nat} (hs : s < 97) : s ∉ TL.tl t := fun m => by
  have := h.2.2 s m
  omega
theorem join_two (y a b : Str) : Txt.join y [a, b] = a ++ y ++ b := by
  rw [TL.join_eq]; rfl
theorem join_three (y a b c : Str) : Txt.join y [a, b, c] = a ++ y ++ (b ++ y ++ c) := by
  rw [TL.join_eq]; rfl
theorem hands_eq (n : Nat) : handsS n = Txt.join (Str.ofString " ") [Str.ofString "hands", numS n] := by
  rw [join_two]
  refine TL.ext_tl ?_
  unfold handsS
  rw [TL.tl_append, TL.tl_append, TL.tl_append]
  have e : TL.tl (Str.ofString "hands ") = TL.tl (Str.ofString "hands") ++ TL.tl (Str.ofString " ") := by decide
  rw [e]
theorem row_eq (j : Job) : rowS j = Txt.join (Str.ofString " ") [Str.ofString "work", j.1, Txt.join (Str.ofString "/") [numS j.2.1, numS j.2.2]] := by
  rw [join_three, join_two]
  refine TL.ext_tl ?_
  unfold rowS
  simp only [TL.tl_append, List.append_assoc]
  have e : TL.tl (Str.ofString "work ") = TL.tl (Str.ofString "work") ++ TL.tl (Str.ofString " ") := by decide
  rw [e, List.append_assoc]
theorem hands_split (n : Nat) : Txt.split (handsS n) (Str.ofString " ") = [Str.ofString "hands", numS n] := by
  rw [hands_eq]
  refine TL.split_join sp_tl (by decide +kernel) (by simp) fun p hp => ?_
  simp only [List.mem_cons, List.not_mem_nil, or_false] at hp
  rcases hp with rfl | rfl
  · decide
  · exact numS_free (by decide)
theorem part_split (e p : Nat) : Txt.split (Txt.join (Str.ofString "/") [numS e, numS p]) (Str.ofString "/") = [numS e, numS p] := by
  refine TL.split_join sl_tl (by decide +kernel) (by simp) fun q hq => ?_
  simp only [List.mem_cons, List.not_mem_nil, or_false] at hq
  rcases hq with rfl | rfl
  · exact numS_free (by decide)
  · exact numS_free (by decide)
theorem row_split {j : Job} (h : IsTag j.1) : Txt.split (rowS j) (Str.ofString " ") = [Str.ofString "work", j.1, Txt.join (Str.ofString "/") [numS j.2.1, numS j.2.2]] := by
  rw [row_eq]
  refine TL.split_join sp_tl (by decide +kernel) (by simp) fun q hq => ?_
  simp only [List.mem_cons, List.not_mem_nil, or_false] at hq
  rcases hq with rfl | rfl | rfl
  · decide
  · exact tag_free h (by decide)
  · rw [join_two, TL.tl_append, TL.tl_append]
    simp only [List.mem_append, not_or]
    exact ⟨⟨numS_free (by decide), by decide⟩, numS_free (by decide)⟩
theorem page_split {n : Nat} {js : List Job} (h : ∀ j ∈ js, IsTag j.1) : Txt.split (pageS n js) nlS = rowsOf n js := by
  unfold pageS
  refine TL.split_join nl_tl (by decide +kernel) (by unfold rowsOf; simp) fun q hq => ?_
  rcases List.mem_cons.mp hq with rfl | hq
  · unfold handsS
    rw [TL.tl_append]
    simp only [List.mem_append, not_or]
    exact ⟨by decide, numS_free (by decide)⟩
  · obtain ⟨j, hj, rfl⟩ := List.mem_map.mp hq
    unfold rowS
    simp only [TL.tl_append, List.mem_append, not_or]
    exact ⟨⟨⟨⟨⟨by decide, tag_free (h j hj) (by decide)⟩, by decide⟩, numS_free (by decide)⟩, by decide⟩, numS_free (by decide)⟩
/-! ## the class -/
theorem lot_hands {t : Str} {n sp : Int} {pn ps pt : Addr} : (lotF t n pn ps sp pt).lookup ("_hands" : Str) = some (.int n) := by
  unfold lotF; repeat (first | rw [lookup_putF, if_pos rfl] | rw [lookup_putF, if_neg (by decide +kernel)])
theorem lot_names {t : Str} {n sp : Int} {pn ps pt : Addr} : (lotF t n pn ps sp pt).lookup ("_names" : Str) = some (.ref pn) := by
  unfold lotF; repeat (first | rw [lookup_putF, if_pos rfl] | rw [lookup_putF, if_neg (by decide +kernel)])
theorem lot_shares {t : Str} {n sp : Int} {pn ps pt : Addr} : (lotF t n pn ps sp pt).lookup ("_shares" : Str) = some (.ref ps) := by
  unfold lotF; repeat (first | rw [lookup_putF, if_pos rfl] | rw [lookup_putF, if_neg (by decide +kernel)])
theorem lot_span {t : Str} {n sp : Int} {pn ps pt : Addr} : (lotF t n pn ps sp pt).lookup ("_span" : Str) = some (.int sp) := by
  unfold lotF; repeat (first | rw [lookup_putF, if_pos rfl] | rw [lookup_putF, if_neg (by decide +kernel)])
theorem putF_len (f : Str) (v : V) : ∀ fs : List (Str × V), (putF f v fs).length ≤ fs.length + 1
  | [] => Nat.le_refl _
  | (g, u) :: r => by
    unfold putF
    split
    · exact Nat.le_succ _
    · exact Nat.succ_le_succ (putF_len f v r)
/-- what the written part tells of the class at C -/
structure LotC (K : PySem.W.Frag) (mg : Str → Option Value) (C : Addr) : Prop where
  cl : Cls K C
  n1 : NoAttr K C "_text"
  n2 : NoAttr K C "_hands"
  n3 : NoAttr K C "_names"
  n4 : NoAttr K C "_shares"
  n5 : NoAttr K C "_span"
  n6 : NoAttr K C "_total"
  mgC : mg "Lot" = some (.ref C)
theorem joinL_len (S : List Nat) : ∀ ps : List (List Nat), (TL.joinL S ps).length ≤ (ps.map (·.length)).sum + ps.length * S.length
  | [] => Nat.zero_le _
  | [p] => by
    show p.length ≤ (p.length + 0) + 1 * S.length
    omega
  | p :: q :: r => by
    have ih := joinL_len S (q :: r)
    show (p ++ (S ++ TL.joinL S (q :: r))).length ≤ (p.length + ((q :: r).map (·.length)).sum) + ((q :: r).length + 1) * S.length
    rw [List.length_append, List.length_append, Nat.add_mul]
    omega
theorem rows_sum {js : List Job} (h : ∀ j ∈ js, (rowS j).length ≤ 23) : ((js.map rowS).map (·.length)).sum ≤ 23 * js.length := by
  induction js with
  | nil => exact Nat.le_refl _
  | cons j js ih =>
    have h1 := h j List.mem_cons_self
    have h2 := ih fun y hy => h y (List.mem_cons_of_mem _ hy)
    show (rowS j).length + ((js.map rowS).map (·.length)).sum ≤ 23 * (js.length + 1)
    omega
theorem page_len {n : Nat} {js : List Job} (hn : n ≤ 1000) (G : Good 1000 js) (hl : js.length ≤ 20) : (pageS n js).length + 2 ≤ 1000 := by
  unfold pageS
  rw [TL.join_eq, TL.len_tl, TL.tl_join, nl_tl]
  have a := joinL_len [10] ((rowsOf n js).map TL.tl)
  have e : ((rowsOf n js).map TL.tl).map (·.length) = (rowsOf n js).map (·.length) := by
    rw [List.map_map]
    exact List.map_congr_left fun x _ => (TL.len_tl x).symm
  rw [e] at a
  have b := rows_sum fun j hj => rowS_len (G.tag j hj) (G.part j hj)
  have c : (handsS n).length ≤ 10 := by
    have l6 : (Str.ofString "hands ").length = 6 := by decide
    have := numS_len hn
    unfold handsS; rw [Str.length_append, l6]; omega
  have d : ((rowsOf n js).map (·.length)).sum = (handsS n).length + ((js.map rowS).map (·.length)).sum := rfl
  have f : ((rowsOf n js).map TL.tl).length = js.length + 1 := by unfold rowsOf; rw [List.length_map, List.length_cons, List.length_map]
  rw [d, f] at a
  simp only [List.length_cons, List.length_nil] at a
  omega
end Ts
namespace Ts
open PySem PySem.Spec PyProof.Rows L2
/-! ## properties, objects made, names given -/
section
variable (P : Program) (w : World) (K : PySem.W.Frag) (mg : Str → Option Value) (base : Heap)
/-- the class at C gives under the name x what stands in the field fld -/
structure PropH (C : Addr) (x fld : Str) : Prop where
  ex : ∃ p g fd, PropOf K C x p g ∧ FnOk P w K mg base CX0 1 g fd ["self"] (getSp C fld) ∧ Binds K fd ["self"] []
/-- an own class by the promise of its __init__ -/
structure HasM (k : Nat) (C : Addr) (ps : List Str) (sp : Sp) : Prop where
  ex : ∃ f fd, Mk K C f ∧ FnOk P w K mg base CX0 k f fd ps sp ∧ Binds K fd ps []
end
section
variable {X : Cx} {k : Nat} {x fld : Str} {C : Addr} {ps : List Str} {sp : Sp} {p pos : Pos} {e : Expr} {es : List Expr} {kws : List Keyword} {t tk : TA} {ta : TE}
theorem pe_ph (h : PropH X.prog X.w X.K X.mg X.base C x fld) (c : Cls X.K C) (hr : Room 2 X.A) (he : PE X e ta) (hab : attributeBase e x X.env (eval e X.env) = eval e X.env := by rfl) :
    PE X (.Attribute e x pos) (tProp C (getSp C fld) [] E0 ta) := by
  obtain ⟨p, g, fd, hp, F, hb⟩ := h.ex
  exact pe_prop he c hp F hr hb .nil pass0 hab
theorem pe_hm (h : HasM X.prog X.w X.K X.mg X.base k C ps sp) (hm : X.mg x = some (.ref C)) (hr : Room (k + 1) X.A) (ha : PA X (e :: es) t) (hg : Gl X x := by rfl) (hdb : (x == ("__debug__" : Str)) = false := by decide)
    (he : starEach (e :: es) X.env = (false, eval e X.env) :: starEach es X.env := by rfl) (hpl : (backTo pos (starEach es X.env)).any (·.1) = false := by rfl) :
    PE X (.Call (.Name x p) (e :: es) [] pos) (tMake C sp [] E0 t) := by
  obtain ⟨f, fd, M, F, hb⟩ := h.ex
  exact pe_make M F hr hg hm hb .nil pass0 ha hdb he hpl
end
/-! ## lots -/
/-- what isinstance asks of the class -/
structure LotI (K : PySem.W.Frag) (C : Addr) : Prop where
  ha : PySem.W.findIn K (.ref C) "__class__" = some (some (.builtin "object.__class__"))
  hn : PySem.W.specialIn K (.builtin "object.__class__") "__get__" = some (some (.builtin "getset_descriptor.__get__"))
  htk : PySem.W.takesIn K (.builtin "object.__class__") = some true
  hm : PySem.W.mroIn K C (.type "object") = some true
theorem kit_self {K : PySem.W.Frag} {C : Addr} : PySem.W.kitOne K (.ref C) (.ref C) = some true := by
  unfold PySem.W.kitOne
  rw [if_pos (by simp)]
theorem pe_gref {X : Cx} {x : Str} {C : Addr} {pos : Pos} (h : X.mg x = some (.ref C)) (hg : Gl X x := by rfl) (hd : (x == ("__debug__" : Str)) = false := by decide) : PE X (.Name x pos) (tC (.ref C)) :=
  pe_glob (v := V.ref C) hg h rfl hd
theorem bot_le {js : List Job} (g : Good 16 js) : totBot js ≤ 720720 := Nat.le_trans (Nat.div_le_self _ _) (span_le g)
/-- a property's reading at a lot -/
theorem lot_get {C a : Addr} {H : Hp} {fld : Str} {dx : Addr} {fs : List (Str × V)} {v : V} {Q : VK} (h : H a = some (.ins C dx fs)) (l : fs.lookup fld = some v) (q : Q v H) :
    ∃ a' dx fs, V.ref a = .ref a' ∧ H a' = some (.ins C dx fs) ∧ getSp C fld [.ref a'] H Q E0 :=
  ⟨a, dx, fs, rfl, h, a, dx, fs, v, rfl, h, l, q⟩
end Ts
namespace Ts
open PySem PySem.Spec PyProof.Rows L2
/-! ## what the laws reckon -/
theorem Good.take {d i : Nat} {js : List Job} (G : Good d js) : Good d (js.take i) :=
  ⟨by rw [List.map_take]; exact G.nd.sublist (List.take_sublist _ _), fun k hk => G.tag k (List.mem_of_mem_take hk), fun k hk => G.part k (List.mem_of_mem_take hk)⟩
/-- the sum in parts of a great common bottom -/
def bigN (js : List Job) : Nat := (js.map fun j => j.2.1 * (720720 / j.2.2)).sum
theorem big_parts {js : List Job} (G : Good 16 js) : bigN js = partsN js (spanN js) * (720720 / spanN js) := by
  have key : ∀ l : List Job, (∀ j ∈ l, j ∈ js) → (l.map fun j => j.2.1 * (720720 / j.2.2)).sum = (l.map fun j => j.2.1 * (spanN js / j.2.2)).sum * (720720 / spanN js) := by
    intro l
    induction l with
    | nil => intro _; simp
    | cons j l ih =>
      intro h
      have hj := h j List.mem_cons_self
      obtain ⟨a, b, c, _⟩ := G.part j hj
      have d1 := dvd_span hj
      have d2 := span_dvd G
      rw [List.map_cons, List.map_cons, List.sum_cons, List.sum_cons, ih fun x hx => h x (List.mem_cons_of_mem _ hx), Nat.add_mul, Nat.mul_assoc]
      congr 2
      obtain ⟨u, hu⟩ := d1
      obtain ⟨v, hv⟩ := d2
      have hp : 0 < j.2.2 := by omega
      have hs : 0 < spanN js := span_pos G
      have e1 : spanN js / j.2.2 = u := by rw [hu, Nat.mul_div_cancel_left _ hp]
      have e2 : 720720 / spanN js = v := by rw [hv, Nat.mul_div_cancel_left _ hs]
      have e3 : 720720 / j.2.2 = u * v := by
        rw [hv, hu, Nat.mul_assoc, Nat.mul_div_cancel_left _ hp]
      rw [e1, e2, e3]
  exact key js fun _ h => h
theorem big_low {js : List Job} (G : Good 16 js) : bigN js / Nat.gcd (bigN js) 720720 = totTop js ∧ 720720 / Nat.gcd (bigN js) 720720 = totBot js := by
  have d2 := span_dvd G
  have hs := span_pos G
  have hk : 0 < 720720 / spanN js := Nat.div_pos (span_le G) hs
  have eN : 720720 = spanN js * (720720 / spanN js) := (Nat.mul_div_cancel' d2).symm
  have e := big_parts G
  have eg : Nat.gcd (bigN js) 720720 = Nat.gcd (partsN js (spanN js)) (spanN js) * (720720 / spanN js) := by
    rw [e]
    conv => lhs; rhs; rw [eN]
    exact Nat.gcd_mul_right _ _ _
  rw [eg]
  refine ⟨?_, ?_⟩
  · rw [e]; exact Nat.mul_div_mul_right _ _ hk
  · conv => lhs; lhs; rw [eN]
    exact Nat.mul_div_mul_right _ _ hk
theorem big_le {js : List Job} (G : Good 16 js) (hl : js.length ≤ 6) : bigN js ≤ 6 * 720720 := by
  have key : ∀ l : List Job, (∀ j ∈ l, j ∈ js) → (l.map fun j => j.2.1 * (720720 / j.2.2)).sum ≤ l.length * 720720 := by
    intro l
    induction l with
    | nil => intro _; exact Nat.le_refl _
    | cons j l ih =>
      intro h
      obtain ⟨a, b, c, _⟩ := G.part j (h j List.mem_cons_self)
      have h1 := ih fun x hx => h x (List.mem_cons_of_mem _ hx)
      have h2 : j.2.1 * (720720 / j.2.2) ≤ 720720 := Nat.le_trans (Nat.mul_le_mul_right _ b) (Nat.mul_div_le _ _)
      rw [List.map_cons, List.sum_cons, List.length_cons]
      omega
  exact Nat.le_trans (key js fun _ h => h) (Nat.mul_le_mul_right _ hl)
theorem top_le {js : List Job} (G : Good 16 js) (hl : js.length ≤ 6) : totTop js ≤ 6 * 720720 := by
  rw [← (big_low G).1]
  exact Nat.le_trans (Nat.div_le_self _ _) (big_le G hl)
/-! ## going up to the least common one -/
/-! ## how long a text is -/
theorem shown_int {n : Nat} (h : n < 10 ^ 10) : (PyData.int (n : Int)).shown.length ≤ 10 := by
  show (numS n).length ≤ 10
  rw [TL.len_tl, numS_tl]
  exact TL.numL_len (by decide) h
theorem show_int {n : Nat} (h : n < 10 ^ 10) : (PyData.int (n : Int)).showable = true := by
  show decide (((n : Nat) : Int).natAbs.log2 < 1920) = true
  refine decide_eq_true ?_
  have e : ((n : Nat) : Int).natAbs = n := by simp
  rw [e]
  by_cases z : n = 0
  · subst z; decide
  · exact Nat.lt_trans ((Nat.log2_lt z).mpr (show n < 2 ^ 40 from Nat.lt_trans h (by decide))) (by decide)
/-! ## what does not divide -/
theorem hu64 {A : Around} {k : Nat} (hr : Room k A) : A.units + 64 < cLine := by have := hr.un; omega
end Ts
namespace Ts
open PySem PySem.Spec PyProof.Rows L2
/-! ## the law is called, no repr around -/
/-- of the heap nothing is told but the script -/
def tells (yes : Bool) (a : Addr) (vs : List Value) (ns : List Int) : Hp := fun c =>
  if c = a then (if yes = true then some (.frz { cls := .type "list", data := .seq vs.toArray } (.lst (ns.map V.int))) else none) else none
theorem tells_at {yes : Bool} {a : Addr} {vs : List Value} {ns : List Int} {c : Addr} {u : HO} (h : tells yes a vs ns c = some u) :
    c = a ∧ yes = true ∧ u = .frz { cls := .type "list", data := .seq vs.toArray } (.lst (ns.map V.int)) := by
  unfold tells at h
  split at h
  · split at h
    · exact ⟨by assumption, by assumption, (Option.some.inj h).symm⟩
    · cases h
  · cases h
end Ts
namespace Ts
open PySem PySem.Spec PyProof.Rows L2
/-! ## what the top has left -/
theorem prop_mk {P : Program} {w : World} {K : PySem.W.Frag} {mg : Str → Option Value} {base : Heap} {x qual fld : Str} {st : Stmt} {C p g : Addr} {fd : FuncData} {p1 p2 p3 : Pos} (F : Fun K x qual st g fd) (S : FnScope ["self"] ["self"] (defScope st))
    (body : defBody st = [.Return (some (.Attribute (.Name "self" p1) fld p2)) p3]) (c : Cls K C) (n : NoAttr K C fld) (pp : PropOf K C x p g)
    (hb : ∀ (kV doc pm : Value) (an : Option Addr) (cdv ct : Value) (us : List Value), us.length = 1 → bindArgs (PySem.W.fnOf x qual (defArgs st) (defBody st) (defScope st) .none kV doc pm an cdv ct) ⟨us, []⟩ = pure ((["self"] : List Str).zip us)) :
    PropH P w K mg base C x fld := by
  have bb := F.binds (ps := ["self"]) hb
  obtain ⟨oc, od, kV, doc, pm, an, cdv, ct, osl, rfl, lk, hcd⟩ := F.ex
  exact ⟨p, g, _, pp, fn_getter (k := 0) lk hcd S rfl body c n, bb⟩
end Ts
namespace Ts
open PySem PySem.Spec PyProof.Rows L2
/-! ## turns -/
def begI (e p : Nat) (t : Int) : Int := (t - 1) * p / e
def borI (e p : Nat) (t : Int) : Int := (t * p + e - 1) / e
def overI (e p : Nat) (t : Int) : Bool := decide (borI e p t > begI e p (t + 1))
def spQUp : Sp := fun vs H Q _ => ∃ (a b : Int), vs = [.int a, .int b] ∧ 0 < b ∧ b < 2 ^ 30 ∧ Q (.int ((a + b - 1) / b)) H
/-- by a share and a number -/
def spOf (K : PySem.W.Frag) (f : Nat → Nat → Int → V) : Sp := fun vs H Q _ => ∃ (v : V) (e p : Nat) (t : Int), vs = [v, .int t] ∧ Dp K H v (partD e p) ∧ GoodPart 16 e p ∧ Q (f e p t) H
/-- the two numbers of a share -/
theorem part_at {K : PySem.W.Frag} {H : Hp} {v : V} {e p : Nat} (h : Dp K H v (partD e p)) : ∃ a, v = .ref a ∧ SqT K H a [.int (e : Int), .int (p : Int)] := by
  obtain ⟨a, xs, rfl, hS, hA⟩ := h.tuple
  obtain ⟨v, u, rfl, g1, g2⟩ := hA.two
  cases g1.int_eq
  cases g2.int_eq
  exact ⟨a, rfl, hS⟩
end Ts
namespace Ts
open PySem PySem.Spec PyProof.Rows L2
/-! ## names given in another order -/
/-- from behind -/
def back {α : Type} (l : List α) : List α := l.reverse
theorem vals_back : ∀ {vs : List V} {us : List Value}, Vals vs us → Vals (back vs) (back us)
  | _, _, .nil => .nil
  | _, _, .cons r h => by
    unfold back
    rw [List.reverse_cons, List.reverse_cons]
    exact (vals_back h).append (.cons r .nil)
end Ts
namespace Ts
open PySem PySem.Spec PyProof.Rows L2
/-! ## ticks of a turn -/
/-! ## what the law's own look answers -/
/-! ## lists of ints as data -/
/-! ## texts of lists of ints and truths -/
theorem int_small {i : Int} (h0 : 0 ≤ i) (h1 : i < 10000000000) : (PyData.int i).showable = true ∧ (PyData.int i).shown.length ≤ 10 := by
  obtain ⟨n, rfl⟩ := Int.eq_ofNat_of_zero_le h0
  have hn : n < 10 ^ 10 := by omega
  exact ⟨show_int hn, shown_int hn⟩
/-! ## what a basin's change leaves -/
theorem seqT_hide {K : PySem.W.Frag} {H : Hp} {a b : Addr} {l xs : List V} (hb : H b = some (.lst l)) (h : SqT K H a xs) : SqT K (hid b H) a xs := by
  have ne : ∀ u, H a = some u → u ≠ HO.lst l → a ≠ b := fun u e d z => by rw [z, hb] at e; exact d (Option.some.inj e).symm
  rcases h with (h | ⟨ob, h⟩) | h
  · exact .inl (.inl ((hid_ne (ne _ h fun z => nomatch z)).trans h))
  · exact .inl (.inr ⟨ob, (hid_ne (ne _ h fun z => nomatch z)).trans h⟩)
  · exact .inr h
theorem part_hide {K : PySem.W.Frag} {H : Hp} {b : Addr} {l : List V} {v : V} {e p : Nat} (hb : H b = some (.lst l)) (h : Dp K H v (partD e p)) : Dp K (hid b H) v (partD e p) := by
  obtain ⟨a, rfl, hS⟩ := part_at h
  exact .tup (seqT_hide hb hS) (.cons (.int _) (.cons (.int _) .nil))
theorem shares_hide {K : PySem.W.Frag} {H : Hp} {b : Addr} {l : List V} (hb : H b = some (.lst l)) : ∀ {js : List Job} {vs : List V}, DpAll K H vs (sharesD js) → DpAll K (hid b H) vs (sharesD js)
  | [], _, .nil => .nil
  | j :: js, _, .cons h t => .cons (part_hide hb h) (shares_hide (js := js) hb t)
theorem LotAt.hide {K : PySem.W.Frag} {C : Addr} {H : Hp} {a b : Addr} {l : List V} {n : Nat} {js : List Job} (hb : H b = some (.lst l)) (L : LotAt K C H a n js) : LotAt K C (hid b H) a n js := by
  obtain ⟨dx, pn, ps, pt, h1, ⟨ob, h2, h5⟩, h3, h4⟩ := L.ex
  have ne : ∀ {c : Addr} {u : HO}, H c = some u → u ≠ HO.lst l → c ≠ b := fun {c u} e d z => by rw [z, hb] at e; exact d (Option.some.inj e).symm
  obtain ⟨ps', xs, e, hS, hA⟩ := h3.tuple
  cases e
  refine ⟨dx, pn, ps, pt, ?_, ⟨ob, ?_, h5⟩, .tup (seqT_hide hb hS) (shares_hide hb hA), part_hide hb h4⟩
  · rw [hid_ne (ne h1 fun z => nomatch z)]; exact h1
  · rw [hid_ne (ne h2 fun z => nomatch z)]; exact h2
end Ts
namespace Ts
open PySem PySem.Spec PyProof.Rows L2
/-! ## turns up to a moment -/
def lowI (e p : Nat) (t : Int) : Int := t * e / p
def highI (e p : Nat) (t : Int) : Int := (t * e + p - 1) / p
/-! ## counting turn by turn -/
/-! ## texts of pairs of greater numbers -/
theorem int_big {i : Int} (h0 : 0 ≤ i) (h1 : i < 10 ^ 40) : (PyData.int i).showable = true ∧ (PyData.int i).shown.length ≤ 40 := by
  obtain ⟨n, rfl⟩ := Int.eq_ofNat_of_zero_le h0
  have hn : n < 10 ^ 40 := by
    have : ((n : Nat) : Int) < ((10 ^ 40 : Nat) : Int) := by rw [Int.natCast_pow]; exact h1
    exact Int.ofNat_lt.mp this
  refine ⟨?_, ?_⟩
  · show decide (((n : Nat) : Int).natAbs.log2 < 1920) = true
    refine decide_eq_true ?_
    have e : ((n : Nat) : Int).natAbs = n := by simp
    rw [e]
    by_cases z : n = 0
    · subst z; decide
    · exact Nat.lt_trans ((Nat.log2_lt z).mpr (show n < 2 ^ 140 from Nat.lt_trans hn (by decide +kernel))) (by decide)
  · show (numS n).length ≤ 40
    rw [TL.len_tl, numS_tl]
    exact TL.numL_len (by decide) hn
end Ts
namespace Ts
open PySem PySem.Spec PyProof.Rows L2
/-! ## what a lot shows, as data -/
def Plain (x : Str) : Prop := ∀ c ∈ TL.tl x, c < 128
theorem plain_app {x y : Str} (h : Plain x) (g : Plain y) : Plain (x ++ y) := fun c hc => by
  rw [TL.tl_append] at hc
  exact (List.mem_append.mp hc).elim (h c) (g c)
theorem plain_num (n : Nat) : Plain (numS n) := fun c hc => by
  by_cases z : c < 128
  · exact z
  · exact absurd hc (numS_free (by omega))
theorem plain_tag {t : Str} (h : IsTag t) : Plain t := fun c hc => by
  have := h.2.2 c hc
  omega
theorem mem_joinL {S : List Nat} {c : Nat} : ∀ {ps : List (List Nat)}, c ∈ TL.joinL S ps → c ∈ S ∨ ∃ p ∈ ps, c ∈ p
  | [], h => nomatch h
  | [p], h => .inr ⟨p, List.mem_cons_self, h⟩
  | p :: q :: r, h => by
    have h : c ∈ p ++ (S ++ TL.joinL S (q :: r)) := h
    rcases List.mem_append.mp h with h | h
    · exact .inr ⟨p, List.mem_cons_self, h⟩
    · rcases List.mem_append.mp h with h | h
      · exact .inl h
      · rcases mem_joinL h with h | ⟨u, hu, h⟩
        · exact .inl h
        · exact .inr ⟨u, List.mem_cons_of_mem _ hu, h⟩
theorem plain_row {j : Job} (h : IsTag j.1) : Plain (rowS j) := by
  unfold rowS
  exact plain_app (plain_app (plain_app (plain_app (plain_app (fun c hc => by revert c; decide) (plain_tag h)) (fun c hc => by revert c; decide)) (plain_num _)) (fun c hc => by revert c; decide)) (plain_num _)
theorem plain_hands (n : Nat) : Plain (handsS n) := by
  unfold handsS
  exact plain_app (fun c hc => by revert c; decide) (plain_num _)
theorem plain_page {d n : Nat} {js : List Job} (G : Good d js) : Plain (pageS n js) := fun c hc => by
  unfold pageS at hc
  rw [TL.join_eq, TL.tl_join, nl_tl] at hc
  rcases mem_joinL hc with h | ⟨u, hu, h⟩
  · rw [List.mem_singleton.mp h]; decide
  · obtain ⟨x, hx, rfl⟩ := List.mem_map.mp hu
    unfold rowsOf at hx
    rcases List.mem_cons.mp hx with rfl | hx
    · exact plain_hands n c h
    · obtain ⟨j, hj, rfl⟩ := List.mem_map.mp hx
      exact plain_row (G.tag j hj) c h
def reprS (m n : Nat) : Str := Str.ofString "Lot of " ++ numS m ++ Str.ofString " works, " ++ numS n ++ Str.ofString " hands"
theorem plain_repr (m n : Nat) : Plain (reprS m n) := by
  unfold reprS
  exact plain_app (plain_app (plain_app (plain_app (fun c hc => by revert c; decide) (plain_num _)) (fun c hc => by revert c; decide)) (plain_num _)) (fun c hc => by revert c; decide)
def shownD (n : Nat) (js : List Job) : PyData := .list [.str (pageS n js), .int n, .tuple (namesD js), .tuple (sharesD js), partD (totTop js) (totBot js), .int (spanN js : Int), .str (pageS n js), .bool true, .str (reprS js.length n)]
theorem short_str {x : Str} (h : Plain x) : PyData.leavesShort 13 (.str x) = true := by
  show (x.cps.toList.all fun c => decide (c < 16 ^ 8)) = true
  rw [List.all_eq_true]
  intro c hc
  have := h c hc
  exact decide_eq_true (by omega)
theorem short_int {i : Int} (h0 : 0 ≤ i) (h1 : i < 10000000000) : PyData.leavesShort 13 (.int i) = true := decide_eq_true (Nat.le_trans (int_small h0 h1).2 (by decide))
theorem weight_int {i : Int} (h0 : 0 ≤ i) (h1 : i < 10000000000) : PyData.weight (.int i) ≤ 100 := by
  show (if i == 0 then 0 else i.natAbs.log2 + 1) ≤ 100
  split
  · omega
  · by_cases z : i.natAbs = 0
    · rw [z]; decide
    · have := (Nat.log2_lt z).mpr (show i.natAbs < 2 ^ 40 by omega)
      omega
/-- data that a repr can write -/
structure Nice (w e : Nat) (d : PyData) : Prop where
  sh : d.showable = true
  lv : d.leavesShort 13 = true
  wt : d.weight ≤ w
  dp : d.depth ≤ e
  nd : d.hasDict = false
structure NiceAll (w e : Nat) (ds : List PyData) : Prop where
  sh : PyData.showableAll ds = true
  lv : PyData.leavesShortAll 13 ds = true
  wt : PyData.weightAll ds ≤ w
  dp : PyData.depthAll ds ≤ e
  nd : PyData.hasDictAll ds = false
theorem NiceAll.nil {w e : Nat} : NiceAll w e [] := ⟨rfl, rfl, Nat.zero_le _, Nat.zero_le _, rfl⟩
theorem NiceAll.cons {w w' e : Nat} {d : PyData} {ds : List PyData} (h : Nice w e d) (g : NiceAll w' e ds) : NiceAll (w + 1 + w') e (d :: ds) := by
  refine ⟨?_, ?_, ?_, ?_, ?_⟩
  · show (d.showable && PyData.showableAll ds) = true
    rw [h.sh, g.sh]; rfl
  · show (d.leavesShort 13 && PyData.leavesShortAll 13 ds) = true
    rw [h.lv, g.lv]; rfl
  · have h1 := h.wt
    have h2 := g.wt
    show d.weight + 1 + PyData.weightAll ds ≤ w + 1 + w'
    omega
  · have h1 := h.dp
    have h2 := g.dp
    show max d.depth (PyData.depthAll ds) ≤ e
    omega
  · show (d.hasDict || PyData.hasDictAll ds) = false
    rw [h.nd, g.nd]; rfl
theorem NiceAll.tup {w e : Nat} {ds : List PyData} (g : NiceAll w e ds) : Nice w (e + 1) (.tuple ds) := ⟨g.sh, g.lv, g.wt, Nat.succ_le_succ g.dp, g.nd⟩
theorem NiceAll.lst {w e : Nat} {ds : List PyData} (g : NiceAll w e ds) : Nice w (e + 1) (.list ds) := ⟨g.sh, g.lv, g.wt, Nat.succ_le_succ g.dp, g.nd⟩
theorem Nice.mono {w w' e e' : Nat} {d : PyData} (h : Nice w e d) (h1 : w ≤ w') (h2 : e ≤ e') : Nice w' e' d := ⟨h.sh, h.lv, Nat.le_trans h.wt h1, Nat.le_trans h.dp h2, h.nd⟩
theorem nice_str {w e : Nat} {x : Str} (h : Plain x) (hw : x.length ≤ w) : Nice w e (.str x) := ⟨rfl, short_str h, hw, Nat.zero_le _, rfl⟩
theorem nice_int {e : Nat} {i : Int} (h0 : 0 ≤ i) (h1 : i < 10000000000) : Nice 100 e (.int i) := ⟨(int_small h0 h1).1, short_int h0 h1, weight_int h0 h1, Nat.zero_le _, rfl⟩
theorem nice_bool {e : Nat} {b : Bool} : Nice 0 e (.bool b) := ⟨rfl, rfl, Nat.le_refl _, Nat.zero_le _, rfl⟩
theorem nice_part {e p : Nat} (h1 : e < 10000000000) (h2 : p < 10000000000) : Nice 202 1 (partD e p) :=
  (NiceAll.tup (NiceAll.cons (nice_int (e := 0) (by omega) (by omega)) (NiceAll.cons (nice_int (e := 0) (by omega) (by omega)) (NiceAll.nil (w := 0))))).mono (by decide) (by decide)
theorem nice_names : ∀ {js : List Job}, (∀ j ∈ js, IsTag j.1) → NiceAll (9 * js.length) 0 (namesD js)
  | [], _ => NiceAll.nil
  | j :: js, h => by
    have hj := h j List.mem_cons_self
    have g := NiceAll.cons (nice_str (w := 8) (e := 0) (plain_tag hj) hj.2.1) (nice_names (js := js) fun x hx => h x (List.mem_cons_of_mem _ hx))
    exact ⟨g.sh, g.lv, Nat.le_trans g.wt (by rw [List.length_cons]; omega), g.dp, g.nd⟩
theorem nice_shares : ∀ {js : List Job}, (∀ j ∈ js, GoodPart 16 j.2.1 j.2.2) → NiceAll (203 * js.length) 1 (sharesD js)
  | [], _ => NiceAll.nil
  | j :: js, h => by
    obtain ⟨p1, p2, p3, _⟩ := h j List.mem_cons_self
    have g := NiceAll.cons (nice_part (e := j.2.1) (p := j.2.2) (by omega) (by omega)) (nice_shares (js := js) fun x hx => h x (List.mem_cons_of_mem _ hx))
    exact ⟨g.sh, g.lv, Nat.le_trans g.wt (by rw [List.length_cons]; omega), g.dp, g.nd⟩
theorem Nice.fits {w e : Nat} {d : PyData} (h : Nice w e d) (h1 : w ≤ 1000000) (h2 : e < 60) : d.showable = true ∧ d.hasDict = false ∧ d.depth < 60 ∧ d.shown.length ≤ sizeLine :=
  ⟨h.sh, h.nd, Nat.lt_of_le_of_lt h.dp h2, PyData.shown_fits (by decide) (by decide) h.lv (Nat.le_trans h.wt (Nat.le_trans h1 (by decide)))⟩
theorem shown_fits {n : Nat} {js : List Job} (G : Good 16 js) (hl : js.length ≤ 6) (hn : n ≤ 6) : (shownD n js).showable = true ∧ (shownD n js).hasDict = false ∧ (shownD n js).depth < 60 ∧ (shownD n js).shown.length ≤ sizeLine := by
  have lp : (pageS n js).length ≤ 1000 := by
    have := page_len (n := n) (by omega) (G.mono (show 16 ≤ 1000 by decide)) (by omega)
    omega
  have lr : (reprS js.length n).length ≤ 1000 := by
    have l1 : (Str.ofString "Lot of ").length = 7 := by decide
    have l2 : (Str.ofString " works, ").length = 8 := by decide
    have l3 : (Str.ofString " hands").length = 6 := by decide
    have l5 := numS_len (n := js.length) (by omega)
    have l6 := numS_len (n := n) (by omega)
    unfold reprS
    rw [Str.length_append, Str.length_append, Str.length_append, Str.length_append, l1, l2, l3]
    omega
  have t1 := top_le G hl
  have t2 := bot_le G
  have t3 := span_le G
  have ns := (nice_names G.tag).tup.mono (show 9 * js.length ≤ 1000 by omega) (show 0 + 1 ≤ 2 by decide)
  have ss := (nice_shares G.part).tup.mono (show 203 * js.length ≤ 2000 by omega) (show 1 + 1 ≤ 2 by decide)
  have page := nice_str (e := 2) (plain_page (n := n) G) lp
  have pr := (nice_part (e := totTop js) (p := totBot js) (by omega) (by omega)).mono (Nat.le_refl _) (show 1 ≤ 2 by decide)
  have all := NiceAll.lst (NiceAll.cons page (NiceAll.cons (nice_int (i := (n : Int)) (by omega) (by omega)) (NiceAll.cons ns (NiceAll.cons ss (NiceAll.cons pr (NiceAll.cons (nice_int (i := (spanN js : Int)) (by omega) (by omega)) (NiceAll.cons page (NiceAll.cons (nice_bool (b := true)) (NiceAll.cons (nice_str (plain_repr _ _) lr) (NiceAll.nil (w := 0)))))))))))
  exact all.fits (by decide) (by decide)
end Ts
namespace Ts
open PySem PySem.Spec PyProof.Rows L2
/-! ## works bent a little -/
/-! ## a page tells its works -/
/-! ## pairs of hands and works, as data -/
/-! ## lists cut and joined -/
/-! ## two cells out of sight; cells that are new -/
def hd (c b : Addr) (H : Hp) : Hp := hid c (hid b H)
theorem hd_ne {a c b : Addr} {H : Hp} (h : a ≠ c) (g : a ≠ b) : hd c b H a = H a := (hid_ne h).trans (hid_ne g)
theorem hd_some {a c b : Addr} {H : Hp} {o : HO} (h : hd c b H a = some o) : a ≠ c ∧ a ≠ b ∧ H a = some o := by
  obtain ⟨n, h⟩ := hid_some h
  obtain ⟨m, h⟩ := hid_some h
  exact ⟨n, m, h⟩
theorem But.hd {c b : Addr} {H H' : Hp} (x : But b H H') : Same (Ts.hd c b H) (Ts.hd c b H') := fun a o h => by
  obtain ⟨n, m, h⟩ := hd_some h
  rw [hd_ne n m]; exact x a o m h
end Ts
namespace Ts
open PySem PySem.Spec PyProof.Rows L2
/-! ## methods by their promises -/
structure HasD (P : Program) (w : World) (K : PySem.W.Frag) (mg : Str → Option Value) (base : Heap) (k : Nat) (C : Addr) (m : Str) (ps : List Str) (sp : Sp) : Prop where
  ex : ∃ f fd, Meth K C m f ∧ FnOk P w K mg base CX0 k f fd ps sp ∧ Binds K fd ps []
theorem hasD_mk {P : Program} {w : World} {K : PySem.W.Frag} {mg : Str → Option Value} {base : Heap} {x qual : Str} {st : Stmt} {C f : Addr} {fd : FuncData} {k : Nat} {ps : List Str} {sp : Sp} (F : Fun K x qual st f fd) (M : Meth K C x f) (ok : FnOk P w K mg base CX0 k f fd ps sp)
    (hb : ∀ (kV doc pm : Value) (an : Option Addr) (cdv ct : Value) (us : List Value), us.length = ps.length → bindArgs (PySem.W.fnOf x qual (defArgs st) (defBody st) (defScope st) .none kV doc pm an cdv ct) ⟨us, []⟩ = pure (ps.zip us)) : HasD P w K mg base k C x ps sp :=
  ⟨f, fd, M, ok, F.binds hb⟩
section
variable {X : Cx} {k : Nat} {C : Addr} {m : Str} {ps ks : List Str} {sp : Sp} {turned : {α : Type} → List α → List α} {o e : Expr} {es : List Expr} {kws : List Keyword} {apos pos : Pos} {ta : TE} {t tk : TA}
theorem pe_hd {pl : Sem Bool} (h : HasD X.prog X.w X.K X.mg X.base k C m ps sp) (c : Cls X.K C) (hr : Room k X.A) (he : PE X o ta) (ha : PA X (e :: es) t)
    (hst : starEach (e :: es) X.env = (false, eval e X.env) :: starEach es X.env := by rfl) (hpl : (backTo pos (starEach es X.env)).any (·.1) = false := by rfl)
    (ht : eval (.Call (.Attribute o m apos) (e :: es) [] pos) X.env = (do
      let ov ← eval o X.env
      standAt apos.atName
      let (g, ahead) ← holding [ov] (getMethod ov m pl)
      callWith pos g ahead (backTo pos (starEach (e :: es) X.env)) (backToKw pos (keywordEach [] X.env))) := by rfl) :
    PE X (.Call (.Attribute o m apos) (e :: es) [] pos) (tMeth C m sp [] E0 ta t) := by
  obtain ⟨f, fd, M, F, b⟩ := h.ex
  exact pe_meth he c M F hr b .nil pass0 ha hst hpl ht
end
/-! ## dict(zip(t, u)) of two tuples -/
end Ts
namespace Ts
open PySem PySem.Spec PyProof.Rows L2
/-! ## a promise that says less -/
theorem Has.imp {P : Program} {w : World} {K : PySem.W.Frag} {mg : Str → Option Value} {base : Heap} {k : Nat} {x : Str} {ps : List Str} {sp sp' : Sp} (A : Has P w K mg base k x ps sp) (h : ∀ vs H Q E, sp' vs H Q E → sp vs H Q E) : Has P w K mg base k x ps sp' := by
  obtain ⟨f, fd, F, hm, hk, hb⟩ := A.ex
  exact ⟨f, fd, F.imp h, hm, hk, hb⟩
/-! ## a work put among others -/
def setJ (js : List Job) (j : Job) : List Job := if j.1 ∈ js.map (·.1) then js.map (fun x => if x.1 = j.1 then j else x) else js ++ [j]
theorem setJ_names (js : List Job) (j : Job) : (setJ js j).map (·.1) = if j.1 ∈ js.map (·.1) then js.map (·.1) else js.map (·.1) ++ [j.1] := by
  unfold setJ
  split
  · rw [List.map_map]
    refine List.map_congr_left fun x _ => ?_
    show (if x.1 = j.1 then j else x).1 = x.1
    split
    · rename_i h; exact h.symm
    · rfl
  · rw [List.map_append]; rfl
theorem setJ_mem {js : List Job} {j x : Job} (h : x ∈ setJ js j) : x = j ∨ x ∈ js := by
  unfold setJ at h
  split at h
  · obtain ⟨y, hy, e⟩ := List.mem_map.mp h
    split at e
    · exact .inl e.symm
    · exact .inr (e ▸ hy)
  · rcases List.mem_append.mp h with h | h
    · exact .inr h
    · exact .inl (List.mem_singleton.mp h)
theorem Good.set {d : Nat} {js : List Job} {j : Job} (G : Good d js) (ht : IsTag j.1) (hp : GoodPart d j.2.1 j.2.2) : Good d (setJ js j) := by
  refine ⟨?_, fun x hx => ?_, fun x hx => ?_⟩
  · rw [setJ_names]
    split
    · exact G.nd
    · rename_i h
      rw [List.nodup_append]
      refine ⟨G.nd, by simp, fun a ha b hb e => h ?_⟩
      rw [← List.mem_singleton.mp hb, ← e]; exact ha
  · rcases setJ_mem hx with h | h
    · rw [h]; exact ht
    · exact G.tag x h
  · rcases setJ_mem hx with h | h
    · rw [h]; exact hp
    · exact G.part x h
/-! ## dicts of works -/
theorem KvsOf.mono {K : PySem.W.Frag} {H H' : Hp} {kvs : List (Key × V)} {js : List Job} (h : KvsOf K H kvs js) (s : Same H H') : KvsOf K H' kvs js := ⟨h.1, h.2.mono s⟩
theorem KvsOf.length {K : PySem.W.Frag} {H : Hp} {kvs : List (Key × V)} {js : List Job} (h : KvsOf K H kvs js) : kvs.length = js.length := by
  have := congrArg List.length h.1
  rw [List.length_map, List.length_map] at this; exact this
/-! ## promises -/
end Ts
namespace Ts
open PySem PySem.Spec PyProof.Rows L2
/-! ## often wanted -/
theorem Bas.on {b : Addr} {H H' : Hp} (h : Bas H b) (s : Same H H') : Bas H' b := by
  obtain ⟨x, y, z, e⟩ := h
  exact ⟨x, y, z, s _ _ e⟩
theorem Bas.off {b p : Addr} {H : Hp} (h : Bas H b) (hp : H p = none) : p ≠ b := by
  obtain ⟨x, y, z, e⟩ := h
  exact (ne_of_none e hp).symm
theorem But.trans' {b : Addr} {H H1 H2 : Hp} (x : But b H H1) (s : Same H1 H2) : But b H H2 := x.trans (But.of_same s)
theorem hid_put {b : Addr} {H : Hp} {o : HO} : Same (hid b H) (hid b (upd H b o)) := fun a u e => by
  obtain ⟨n, e⟩ := hid_some e
  rw [hid_ne n, upd_ne n]; exact e
theorem hid_new {b : Addr} {H H' : Hp} (s : Same H H') (h : H b = none) : Same H (hid b H') := fun a u e => by
  rw [hid_ne (ne_of_none e h)]; exact s _ _ e
theorem hid_same {b : Addr} {H H' : Hp} (s : Same H H') : Same (hid b H) (hid b H') := (But.of_same s : But b H H').hid
/-- behind the making of a lot -/
theorem lot_same {x dx : Addr} {o u : HO} {H H' : Hp} (b : But x (upd (upd H dx u) x o) H') (hx : H x = none) (hdx : H dx = none) : Same H H' :=
  fun a v e => b a v (ne_of_none e hx) (by rw [upd_ne (ne_of_none e hx), upd_ne (ne_of_none e hdx)]; exact e)
section
variable {K : PySem.W.Frag} {mg : Str → Option Value} {C : Addr} {H : Hp} {Q : VK} {x y : Addr} {m n : Nat} {js ks : List Job}
theorem LotAt.kind (T : LotC K mg C) (I : LotI K C) (L : LotAt K C H x n js) : TyX K H (.ref x) (.ref C) := by
  obtain ⟨dx, pn, ps, pt, ha, _⟩ := L.ex
  exact .base (.ins ha T.cl I.ha I.hn I.htk I.hm)
end
/-! ## a work put back as it was -/
/-! ## pairs of a list, as a dict -/
end Ts
namespace Ts
open PySem PySem.Spec PyProof.Rows L2
/-! ## rows of numbers sorted, of any lengths, as many as there are -/
/-! ## a list walked: the outer and the inner loop of a comprehension -/
theorem walk_list {K : PySem.W.Frag} {a : Addr} {xs : List V} {H0 : Hp} {Qd : Hp → Prop} {B : V → Hp → (Hp → Prop) → Prop} (Pv : Nat → Hp → Prop) (h0 : Pv 0 H0) (hl : ∀ i H, i ≤ xs.length → Pv i H → SqL K H a xs)
    (hs : ∀ i x H, xs[i]? = some x → Pv i H → B x H (Pv (i + 1))) (hd : ∀ H, Pv xs.length H → Qd H) :
    ∃ W : Nat → Nat → Hp → Prop, (∃ m, W 0 m H0) ∧ ∀ i m H, W i m H → ((Itl K a).stop i H ∧ Qd H) ∨ ((Itl K a).go i H ∧ ∃ Nx : Hp → Prop, (∀ H', Nx H' → ∃ m', m' < m ∧ W (i + 1) m' H') ∧ ∀ x H', (Itl K a).yld i H x H' → B x H' Nx) := by
  refine ⟨fun i m H => m = xs.length - i ∧ i ≤ xs.length ∧ Pv i H, ⟨_, rfl, Nat.zero_le _, h0⟩, ?_⟩
  rintro i m H ⟨rfl, le, z⟩
  have q := hl i H le z
  rcases Nat.lt_or_eq_of_le le with lt | rfl
  · have e : xs[i]? = some xs[i] := by simp [lt]
    refine .inr ⟨⟨xs, xs[i], q, e⟩, Pv (i + 1), fun H2 z2 => ⟨_, by omega, rfl, lt, z2⟩, ?_⟩
    rintro x _ ⟨rfl, y⟩
    exact hs i x _ (y xs q) z
  · exact .inl ⟨⟨xs, q, Nat.le_refl _⟩, hd H z⟩
end Ts
namespace PySem
open Sem (wp)
end PySem
namespace Ts
open PySem PySem.Spec PyProof.Rows L2
/-! ## rows: one of each -/
abbrev rowD (r : List Int) : PyData := .tuple (r.map PyData.int)
/-- each row, with each number of the next ones behind it -/
def growR (rows : List (List Int)) (o : List Int) : List (List Int) := rows.flatMap fun r => o.map fun m => r ++ [m]
def picksR (os : List (List Int)) : List (List Int) := os.foldl growR [[]]
/-! ## the numbers that keep a work -/
/-- the numbers of ticks with which a work is kept at t -/
def keptL (e p : Nat) (t : Int) : List Int := if t * e % p = 0 then [lowI e p t] else [lowI e p t, lowI e p t + 1]
theorem high_eq {e p : Nat} {t : Int} (hp : 0 < p) : highI e p t = if t * e % p = 0 then lowI e p t else lowI e p t + 1 := by
  unfold highI lowI
  have hp : (0 : Int) < p := by omega
  have h1 := Int.mul_ediv_add_emod (t * e) p
  have h2 := Int.emod_nonneg (t * e) (Int.ne_of_gt hp)
  have h3 := Int.emod_lt_of_pos (t * e) hp
  generalize (t * (e : Int)) = n at *
  generalize n / (p : Int) = q at *
  generalize n % (p : Int) = r at *
  split
  · rename_i h
    rw [show n + p - 1 = (p - 1 : Int) + p * q by omega, Int.add_mul_ediv_left _ _ (Int.ne_of_gt hp), Int.ediv_eq_zero_of_lt (by omega) (by omega)]; omega
  · rename_i h
    rw [show n + p - 1 = (r - 1 : Int) + p * (q + 1) by rw [Int.mul_add]; omega, Int.add_mul_ediv_left _ _ (Int.ne_of_gt hp), Int.ediv_eq_zero_of_lt (by omega) (by omega)]; omega
/-- the options of all works at t -/
def optsR (js : List Job) (t : Int) : List (List Int) := js.map fun j => keptL j.2.1 j.2.2 t
def rowsR (js : List Job) (t : Int) : List (List Int) := picksR (optsR js t)
/-! ## what is asked -/
end Ts
namespace Ts
/-! ## crews as numbers -/
def crewN (ms : List Nat) : Nat := (ms.map fun m => 2 ^ m).sum
def posL {α : Type} (p : α → Bool) : List α → Nat → List Nat
  | [], _ => []
  | x :: r, i => if p x = true then i :: posL p r (i + 1) else posL p r (i + 1)
theorem crew_snoc (ms : List Nat) (m : Nat) : crewN (ms ++ [m]) = crewN ms + 2 ^ m := by simp [crewN]
theorem posL_lt {α : Type} (p : α → Bool) : ∀ (l : List α) (i : Nat), crewN (posL p l i) + 2 ^ i ≤ 2 ^ (i + l.length)
  | [], i => by simp [posL, crewN]
  | x :: r, i => by
    have ih := posL_lt p r (i + 1)
    have e : i + (x :: r).length = i + 1 + r.length := by simp; omega
    rw [e]
    unfold posL
    have e2 : 2 ^ (i + 1) = 2 ^ i + 2 ^ i := by rw [Nat.pow_succ]; omega
    have e3 := Nat.two_pow_pos i
    split
    · show (2 ^ i + crewN (posL p r (i + 1))) + 2 ^ i ≤ _
      omega
    · omega
theorem posL_lt0 {α : Type} (p : α → Bool) (l : List α) : crewN (posL p l 0) < 2 ^ l.length := by
  have := posL_lt p l 0
  rw [Nat.zero_add, Nat.pow_zero] at this; omega
theorem posL_snoc {α : Type} (p : α → Bool) : ∀ (l : List α) (i : Nat) (x : α), posL p (l ++ [x]) i = posL p l i ++ if p x = true then [i + l.length] else []
  | [], i, x => by
    show (if p x = true then i :: [] else []) = [] ++ _
    simp
  | y :: r, i, x => by
    show (if p y = true then i :: posL p (r ++ [x]) (i + 1) else posL p (r ++ [x]) (i + 1)) = (if p y = true then i :: posL p r (i + 1) else posL p r (i + 1)) ++ _
    rw [posL_snoc p r (i + 1) x]
    have e : i + 1 + r.length = i + (y :: r).length := by simp; omega
    rw [e]
    split <;> simp
def sizesN : Nat → List Nat
  | 0 => [0]
  | n + 1 => sizesN n ++ (sizesN n).map (· + 1)
def subsN : Nat → List (List Nat)
  | 0 => [[0]]
  | n + 1 => subsN n ++ (subsN n).map fun w => w ++ w.map (· + 2 ^ n)
theorem sizes_len : ∀ n, (sizesN n).length = 2 ^ n
  | 0 => rfl
  | n + 1 => by rw [sizesN, List.length_append, List.length_map, sizes_len n, Nat.pow_succ]; omega
theorem subs_len : ∀ n, (subsN n).length = 2 ^ n
  | 0 => rfl
  | n + 1 => by rw [subsN, List.length_append, List.length_map, subs_len n, Nat.pow_succ]; omega
/-- what lies within a crew is no greater, and of the same works -/
theorem subs_in : ∀ n, ∀ w ∈ subsN n, w.length ≤ 2 ^ n ∧ ∀ p ∈ w, p < 2 ^ n
  | 0, w, h => by
    have e : w = [0] := by simpa [subsN] using h
    subst e
    refine ⟨by decide, fun p hp => ?_⟩
    have : p = 0 := by simpa using hp
    subst this; decide
  | n + 1, w, h => by
    have e2 : 2 ^ (n + 1) = 2 ^ n + 2 ^ n := by rw [Nat.pow_succ]; omega
    rcases List.mem_append.mp h with h | h
    · obtain ⟨a, b⟩ := subs_in n w h
      exact ⟨by omega, fun p hp => by have := b p hp; omega⟩
    · obtain ⟨u, hu, rfl⟩ := List.mem_map.mp h
      obtain ⟨a, b⟩ := subs_in n u hu
      refine ⟨by rw [List.length_append, List.length_map]; omega, fun p hp => ?_⟩
      rcases List.mem_append.mp hp with hp | hp
      · have := b p hp; omega
      · obtain ⟨q, hq, rfl⟩ := List.mem_map.mp hp
        have := b q hq; omega
/-! ## the walk back -/
/-- the standings of a crew's subsets, as a number -/
def possN (n c : Nat) : Nat := crewN ((subsN n).getD c [])
def notAheadN (n at_ : Nat) : Nat := crewN (((subsN n).getD (2 ^ n - 1) []).filter fun a => a / 2 ^ at_ % 2 == 0)
def stepN (grown at_ others given idle : Nat) : Nat :=
  if grown / 2 ^ at_ % 2 = 1 then given ||| ((idle &&& others) * 2 ^ 2 ^ at_) else idle ||| ((given / 2 ^ 2 ^ at_) &&& others)
/-- pairs of what comes with a hand and without one -/
def pairN (found : List Nat) : List (Nat × Nat) := (found ++ [0]).zip (0 :: found)
def foundN (grown : Nat) : List Nat → Nat → List Nat → List Nat
  | [], _, found => found
  | o :: os, at_, found => foundN grown os (at_ + 1) ((pairN found).map fun q => stepN grown at_ o q.2 q.1)
def beforeN (after grown : Nat) (na : List Nat) (most : Nat) : Nat := ((foundN grown na 0 [after]).take (most + 1)).foldl (· ||| ·) 0
end Ts
namespace Ts
open PySem PySem.Spec PyProof.Rows L2
/-! ## rows of great numbers, written and compared -/
/-- data of short texts and of numbers of up to forty digits -/
structure Fine (w e : Nat) (d : PyData) : Prop where
  sh : d.showable = true
  lv : d.leavesShort 40 = true
  wt : d.weight ≤ w
  dp : d.depth ≤ e
  nd : d.hasDict = false
structure FineAll (w e : Nat) (ds : List PyData) : Prop where
  sh : PyData.showableAll ds = true
  lv : PyData.leavesShortAll 40 ds = true
  wt : PyData.weightAll ds ≤ w
  dp : PyData.depthAll ds ≤ e
  nd : PyData.hasDictAll ds = false
theorem FineAll.nil {w e : Nat} : FineAll w e [] := ⟨rfl, rfl, Nat.zero_le _, Nat.zero_le _, rfl⟩
theorem FineAll.cons {w w' e : Nat} {d : PyData} {ds : List PyData} (h : Fine w e d) (g : FineAll w' e ds) : FineAll (w + 1 + w') e (d :: ds) := by
  have h1 := h.wt
  have h2 := g.wt
  have h3 := h.dp
  have h4 := g.dp
  exact ⟨by show (d.showable && PyData.showableAll ds) = true; rw [h.sh, g.sh]; rfl, by show (d.leavesShort 40 && PyData.leavesShortAll 40 ds) = true; rw [h.lv, g.lv]; rfl, by show d.weight + 1 + PyData.weightAll ds ≤ w + 1 + w'; omega,
    by show max d.depth (PyData.depthAll ds) ≤ e; omega, by show (d.hasDict || PyData.hasDictAll ds) = false; rw [h.nd, g.nd]; rfl⟩
theorem FineAll.tup {w e : Nat} {ds : List PyData} (g : FineAll w e ds) : Fine w (e + 1) (.tuple ds) := ⟨g.sh, g.lv, g.wt, Nat.succ_le_succ g.dp, g.nd⟩
theorem FineAll.lst {w e : Nat} {ds : List PyData} (g : FineAll w e ds) : Fine w (e + 1) (.list ds) := ⟨g.sh, g.lv, g.wt, Nat.succ_le_succ g.dp, g.nd⟩
theorem Fine.mono {w w' e e' : Nat} {d : PyData} (h : Fine w e d) (h1 : w ≤ w') (h2 : e ≤ e') : Fine w' e' d := ⟨h.sh, h.lv, Nat.le_trans h.wt h1, Nat.le_trans h.dp h2, h.nd⟩
theorem FineAll.mono {w w' e e' : Nat} {ds : List PyData} (h : FineAll w e ds) (h1 : w ≤ w') (h2 : e ≤ e') : FineAll w' e' ds := ⟨h.sh, h.lv, Nat.le_trans h.wt h1, Nat.le_trans h.dp h2, h.nd⟩
theorem fine_int {e : Nat} {i : Int} (h0 : 0 ≤ i) (h1 : i < 10 ^ 40) : Fine 140 e (.int i) := by
  obtain ⟨a, b⟩ := int_big h0 h1
  refine ⟨a, decide_eq_true b, ?_, Nat.zero_le _, rfl⟩
  show (if i == 0 then 0 else i.natAbs.log2 + 1) ≤ 140
  split
  · omega
  · by_cases z : i.natAbs = 0
    · rw [z]; decide
    · have k : ((10 : Int) ^ 40) = ((10 ^ 40 : Nat) : Int) := by rw [Int.natCast_pow]; rfl
      rw [k] at h1
      have l : i.natAbs < 10 ^ 40 := by generalize 10 ^ 40 = c at h1 ⊢; omega
      have := (Nat.log2_lt z).mpr (Nat.lt_trans l (by decide +kernel : 10 ^ 40 < 2 ^ 139))
      omega
theorem fine_all {w e : Nat} : ∀ {ds : List PyData}, (∀ d ∈ ds, Fine w e d) → FineAll ((w + 1) * ds.length) e ds
  | [], _ => FineAll.nil
  | d :: ds, h => by
    refine (FineAll.cons (h d List.mem_cons_self) (fine_all (ds := ds) fun x hx => h x (List.mem_cons_of_mem _ hx))).mono ?_ (Nat.le_refl _)
    rw [List.length_cons, Nat.mul_add]; omega
theorem Fine.fits {w e : Nat} {d : PyData} (h : Fine w e d) (h1 : w ≤ 300000) (h2 : e < 60) : d.showable = true ∧ d.hasDict = false ∧ d.depth < 60 ∧ d.shown.length ≤ sizeLine := by
  refine ⟨h.sh, h.nd, Nat.lt_of_le_of_lt h.dp h2, ?_⟩
  have a := PyData.shown_le 40 (by decide) d h.lv
  have b := h.wt
  rw [sizeLine_eq]
  omega
/-! ## equal rows -/
/-! ## draws out of a great many -/
end Ts
namespace Ts
open PySem PySem.Spec PyProof.Rows L2
/-! ## bits of numbers from 0 on -/
/-- of one crew those that are not in the other -/
def needN (g a : Nat) : Nat := g - (g &&& a)
def xorN (g a : Nat) : Nat := (g ||| a) - (g &&& a)
theorem need_le (g a : Nat) : needN g a ≤ g := Nat.sub_le _ _
/-! ## lists of numbers -/
abbrev natV (ms : List Nat) : List V := ms.map fun m : Nat => V.int (m : Int)
abbrev natD (ms : List Nat) : List PyData := ms.map fun m : Nat => PyData.int (m : Int)
def membersN (c : Nat) : List Nat := (List.range (Builtin.Int.intBits (c : Int))).filter fun a => c / 2 ^ a % 2 == 1
def grownL (xs ys : List Int) : Nat := crewN (posL (fun q : Int × Int => decide (q.1 < q.2)) (xs.zip ys) 0)
abbrev subsD (n : Nat) : List PyData := (subsN n).map fun w => PyData.list (natD w)
/-! ## what is asked -/
end Ts
namespace Ts
open PySem PySem.Spec PyProof.Rows L2 L2H LamX
/-! ## try .. except (A, B, C) as e -/
theorem ff_keep {h h' base : Heap} (k : ∀ (b : Addr) (o : Obj), h.get? b = some o → h'.get? b = some o) : ∀ {l : List Env}, h.FunFrames base l → h'.FunFrames base l
  | [], _ => trivial
  | env :: rest, z => by
    obtain ⟨z1, ⟨L, o, z2, z3, z4, z5⟩, z6⟩ := z
    exact ⟨z1, ⟨L, o, z2, z3, k _ _ z4, z5⟩, ff_keep k z6⟩
theorem fly_keep {base h h' : Heap} {l : List Env} {e : Addr} {Z : Obj → Prop} (k : ∀ (b : Addr) (o : Obj), h.get? b = some o → h'.get? b = some o) (z : HandSPX.FlyingZ base l e Z h) : HandSPX.FlyingZ base l e Z h' := by
  obtain ⟨z1, z2, z3, oe, vs, T, oT, ts, t1, t2, t3, t4, t5, t6, t7, t8, t9⟩ := z
  exact ⟨fun b o e => k _ _ (z1 b o e), z2, ff_keep k z3, oe, vs, T, oT, ts, k _ _ t1, t2, t3, t4, t5, t6, k _ _ t7, t8, t9⟩
def wTup (K : PySem.W.Frag) (cs : List Value) (i : Nat) (ts : Addr → Value → Option Addr → TS) (D : Ends) : WX := fun cls d σ H => PySem.W.exmAny K cls cs = some true ∧ ∀ a, H a = none →
  ts a cls d { nx := fun σ' H' => D.nx (σ'.set i none) H', rt := D.rt, bk := fun σ' H' => D.bk (σ'.set i none) H', ct := fun σ' H' => D.ct (σ'.set i none) H' } (σ.set i (some (.ref a))) H
theorem ld_name {X : Cx} {E : Value → Shared → Prop} {pins : List (Addr × Obj)} {s : Shared} {σ : L2.St} {H : Hp} {x : Str} {c : Value} {pos : Pos} {Q : Value → Shared → Prop} (I : L2.Inv X pins σ H s) (hc : Names X x c) (q : Q c s) :
    wpAny (model X.prog X.w) X.A (eval (.Name x pos) X.env) Q E s := by
  obtain ⟨hg, hd, hm | ⟨hm, hv, hn⟩⟩ := hc
  · exact ld_glob I hg hm q hd
  · exact ld_blt I hg hm hv q hn hd
theorem ps_try_tup3 {X : Cx} {x1 x2 x3 n : Str} {c1 c2 c3 : Value} {i k1 : Nat} {body suite : List Stmt} {b₀ : Stmt} {np1 np2 np3 tp pos pos' : Pos} {tb : WX → TS} {ts : Addr → Value → Option Addr → TS}
    (hs : X.stack = X.env :: X.outer) (hf : X.env.frame = some X.env.locals) (hN : X.N.Nodup) (hi : X.N[i]? = some n) (hln : X.env.kindOf n = some NameKind.local) (hc1 : Names X x1 c1) (hc2 : Names X x2 c2) (hc3 : Names X x3 c3)
    (hb : ∀ (W : WX) (pn : List (Addr × Obj)) (xe : Value → Shared → Prop), Takes (X.tr pn xe) W → PassesOwn (model X.prog X.w) X.A X.env xe → PSs (X.tr pn xe) body (tb W))
    (hsu : ∀ (a : Addr) (oe : Obj) (cls : Value) (d : Option Addr) (pn : List (Addr × Obj)), Zc cls d oe → (∃ vs, oe.data = Data.fields vs) → PSs (X.suite a ((a, oe) :: pn)) (b₀ :: suite) (ts a cls d)) :
    PS X (.Try body [.ExceptHandler (some (.Tuple [.Name x1 np1, .Name x2 np2, .Name x3 np3] k1 tp)) (some n) (b₀ :: suite) pos'] [] [] pos) fun D σ H => tb (wTup X.K [c1, c2, c3] i ts D) D σ H := by
  refine ⟨fun pins s σ H D I h => ?_⟩
  have ok := I.ok
  have hfr : X.A.frames = some (X.env :: X.outer) := by rw [ok.frames, hs]
  refine wpAny_Try_except (wpAny_mono ((hb (wTup X.K [c1, c2, c3] i ts D) (X.pn ++ pins) (fun e s₁ => wpAny (model X.prog X.w) X.A (noteFrame e X.env) (fun _ s₂ => wpAny (model X.prog X.w) X.A (setFlight e none) (fun _ s₃ => wpAny (model X.prog X.w) X.A (handleBy e X.env [.ExceptHandler (some (.Tuple [.Name x1 np1, .Name x2 np2, .Name x3 np3] k1 tp)) (some n) (b₀ :: suite) pos']) (SP X pins D) X.xe s₃) X.xe s₂) X.xe s₁) (fun u s' xx => ?_) PassesOwn.looking).run [] s σ H D (I.toTry _) h) (fun f s1 hsp => ?_) (fun e s1 he => he))
  · obtain ⟨a, B, sI, pins', σ', H', cls, d, rfl, J', nb, up, sky, na, os, ag, hm, hyes⟩ := xx
    have J := J'.ofTry ok
    have sky' : Sky B (X.env :: X.outer) a (Zc cls d) X.env.locals s'.heap := by rw [← hs]; exact sky
    refine Sky.land Zc.steady hfr hf sky' fun h3 fl3 up3 => ?_
    have J3 := J.landed (s' := { heap := h3, gens := s'.gens, drawn := s'.drawn, toks := s'.toks, os := s'.os }) nb fl3.1 (up.trans up3) os ag
    obtain ⟨oe3, vs3, he3, hz3, hd3⟩ := HandSPX.FlyingZ.there fl3
    have nfr : a ∉ List.filterMap (fun x : Env => x.frame) (X.env :: X.outer) := fun hm => by
      obtain ⟨_, o', e', hnf⟩ := Heap.FunFrames.mem fl3.2.2.1 hm
      rw [he3] at e'
      cases e'
      exact hnf _ hd3
    have nL : a ≠ X.env.locals := fun z => nfr (List.mem_filterMap.mpr ⟨X.env, List.mem_cons_self, by rw [hf, z]⟩)
    have nF : a ∉ X.fs := fun hm => by
      obtain ⟨e, he, q⟩ := List.mem_filterMap.mp hm
      exact nfr (List.mem_filterMap.mpr ⟨e, List.mem_cons_of_mem _ he, q⟩)
    have S3 := J3.suite he3 hd3 na nL nF
    refine wpAny_handleBy_cons ?_ (fun q => by cases q)
    refine codeAny_handlers_test (wpAny_Tuple_spliced ?_)
    refine Calls.spliced_cons (ld_name S3 hc1 (Calls.spliced_cons (ld_name S3 hc2 (Calls.spliced_cons (ld_name S3 hc3 (Calls.spliced_nil ?_))))))
    have kp : ∀ (b : Addr) (o : Obj), h3.get? b = some o → (h3.push { cls := Value.type "tuple", data := Data.seq #[c1, c2, c3] }).get? b = some o := fun b o e => Heap.get?_push_of_some _ e
    have tp3 : (h3.push { cls := Value.type "tuple", data := Data.seq #[c1, c2, c3] }).get? h3.objs.size = some { cls := Value.type "tuple", data := Data.seq #[c1, c2, c3] } := Heap.get?_push_size h3 rfl
    refine ⟨by show 3 ≤ sizeLine; decide, ?_⟩
    have fl5 := fly_keep kp fl3
    have up5 : h3.UpToSlots (h3.push { cls := Value.type "tuple", data := Data.seq #[c1, c2, c3] }) := fun b o e _ => ⟨o.slots, kp b o e⟩
    have KX := (Inv.kIn J3).keeps kp
    have LM := PySem.W.exm_tup3 (M := model X.prog X.w) (e := a) KX (fun A Q E s k' q => wpAny_typeOf_ref (k' a oe3 (kp _ _ he3)) (by rw [hz3.1]; exact q)) tp3 hm
    revert fl5 up5 KX LM kp tp3
    generalize h3.push { cls := Value.type "tuple", data := Data.seq #[c1, c2, c3] } = h5
    intro kp tp3 fl5 up5 KX LM
    refine PySem.W.Looks.here LM ?_
    refine codeAny_handlers_suite_as (HandSPX.lands_againZ fl5 fun h4 fl4 up4 => ?_)
    have J4 := J.landed (s' := { heap := h4, gens := s'.gens, drawn := s'.drawn, toks := s'.toks, os := s'.os }) nb fl4.1 (((up.trans up3).trans up5).trans up4) os ag
    obtain ⟨oe4, vs4, he4, hz4, hd4⟩ := HandSPX.FlyingZ.there fl4
    have S4 := J4.suite he4 hd4 na nL nF
    refine store_ok (X := X.suite a ((a, oe4) :: (X.pn ++ pins))) (v := .ref a) S4 hN hi (Or.inl hln) rfl (fun s5 S5 => ?_) (Or.inr hln)
    refine wpAny_mono ((hsu a oe4 cls d (X.pn ++ pins) hz4 ⟨vs4, hd4⟩).run [] s5 (σ'.set i (some (.ref a))) H' _ S5 (hyes a na)) (fun f s6 hsp => ?_) (fun _ _ z => z.elim)
    have end_ : ∀ {σ6 : L2.St} {H6 : Hp} {Q : Unit → Shared → Prop}, L2.Inv (X.suite a ((a, oe4) :: (X.pn ++ pins))) [] σ6 H6 s6 → (∀ s7, L2.Inv X pins (σ6.set i none) H6 s7 → Q () s7) → wpAny (model X.prog X.w) X.A (do
        bindName X.env n Value.none
        unbindBehindTheSuite X.env n pos') Q X.xe s6 := fun S6 hq => gone_ok (S6.unsuite ok) hN hi hln hq
    cases f with
    | next => obtain ⟨σ6, H6, S6, q6⟩ := hsp; exact end_ S6 fun s7 J7 => ⟨_, H6, J7, q6⟩
    | brk => obtain ⟨σ6, H6, S6, q6⟩ := hsp; exact end_ S6 fun s7 J7 => ⟨_, H6, J7, q6⟩
    | cont => obtain ⟨σ6, H6, S6, q6⟩ := hsp; exact end_ S6 fun s7 J7 => ⟨_, H6, J7, q6⟩
    | ret u => obtain ⟨v6, σ6, H6, S6, r6, q6⟩ := hsp; exact end_ S6 fun s7 J7 => ⟨v6, _, H6, J7, r6, q6⟩
  · cases f with
    | next => obtain ⟨σ', H', J', q⟩ := hsp; exact wpAny_execs_nil ⟨σ', H', J'.ofTry ok, q⟩
    | brk => obtain ⟨σ', H', J', q⟩ := hsp; exact ⟨σ', H', J'.ofTry ok, q⟩
    | cont => obtain ⟨σ', H', J', q⟩ := hsp; exact ⟨σ', H', J'.ofTry ok, q⟩
    | ret u => obtain ⟨v, σ', H', J', r, q⟩ := hsp; exact ⟨v, σ', H', J'.ofTry ok, r, q⟩
/-! ## defs called within an except suite: they know the error that is handled -/
section
variable (P : Program) (w : World) (K : PySem.W.Frag) (mg : Str → Option Value) (base : Heap)
structure FnP (k : Nat) (f : Addr) (fd : FuncData) (ps : List Str) (sp : Addr × Obj → Sp) : Prop where
  len : ∀ p vs H Q E, sp p vs H Q E → vs.length = ps.length
  go : ∀ (A : Around) (out : List Env) (s : Shared) (H : Hp) (us : List Value) (vs : List V) (Q : VK) (p : Addr × Obj), RoomH k A → PinOk out H s p → Env0 P w K mg base A out s H →
    BindsTo s fd ⟨us, []⟩ (ps.zip us) → Vals vs us → sp p vs H Q E0 → codeAny (model P w) A (.call (.ref f) ⟨us, []⟩) (CR CX0 out P w H s Q E0) s
structure HasP (k : Nat) (x : Str) (ps : List Str) (sp : Addr × Obj → Sp) : Prop where
  ex : ∃ f fd, FnP P w K mg base k f fd ps sp ∧ mg x = some (.ref f) ∧ PySem.W.keepIn K (.ref f) = true ∧ Binds K fd ps []
end
section
variable {P : Program} {w : World} {K : PySem.W.Frag} {mg : Str → Option Value} {base : Heap}
theorem DefAt.hasP {x : Str} {st : Stmt} {k : Nat} {ps : List Str} {sp : Addr × Obj → Sp} (D : DefAt K mg x st)
    (hb : ∀ (kV doc pm : Value) (an : Option Addr) (cdv ct : Value) (us : List Value), us.length = ps.length → bindArgs (PySem.W.fnOf x x (defArgs st) (defBody st) (defScope st) .none kV doc pm an cdv ct) ⟨us, []⟩ = pure (ps.zip us))
    (ok : ∀ f fd, Fun K x x st f fd → FnP P w K mg base k f fd ps sp) : HasP P w K mg base k x ps sp := by
  obtain ⟨f, fd, F, hm⟩ := D.ex
  exact ⟨f, fd, ok f fd F, hm, F.kp, F.binds hb⟩
theorem fun_p {x qual : Str} {st : Stmt} {f : Addr} {fd : FuncData} {N ps : List Str} {k : Nat} {sp : Addr × Obj → Sp} (F : Fun K x qual st f fd) (S : FnScope N ps (defScope st))
    (ln : ∀ p vs H Q E, sp p vs H Q E → vs.length = ps.length)
    (hb : ∀ (cdv : Value) (A : Around) (out : List Env) (s : Shared) (H : Hp) (vs : List V) (Q : VK) (p : Addr × Obj), RoomH k (A.deeper (envOfC qual (defScope st) s.heap.objs.size f cdv)) → sp p vs H Q E0 →
      ∃ t, PSs (cxH CX0 P w K mg base N qual (defScope st) f cdv A out s H E0 p) (defBody st) t ∧ t { nx := fun _ H' => Q .non H', rt := Q } (start N vs) H) : FnP P w K mg base (k + 1) f fd ps sp := by
  obtain ⟨oc, od, kV, doc, pm, an, cdv, ct, osl, rfl, lk, hcd⟩ := F.ex
  refine ⟨ln, fun A out s H us vs Q p hr hpin e0 hbd r q => ?_⟩
  have hl := ln p vs H Q E0 q
  have KX := PySem.W.Frag.In.keeps e0.mod.kin fun b o e => (e0.bs b o e).1
  have lim := Heap.NoLimit.keeps e0.mod.nolimit fun b o e => (e0.bs b o e).1
  have hkind : ∀ y ∈ ps.zip us, (defScope st).names.lookup y.1 = some .local ∨ ((defScope st).names.lookup y.1 = some .cell ∧ ((cellsFrom (s.heap.objs.size + 1) (defScope st).names []).lookup y.1).isSome = true) := by
    intro y hy
    have hm : y.1 ∈ ps := (List.of_mem_zip (a := y.1) (b := y.2) hy).1
    rcases S.par _ hm with z | z
    · exact Or.inl z
    · exact Or.inr ⟨z, PySem.W.cellsFrom_some _ _ _ (Or.inl z)⟩
  refine codeAny_call_function (RoomH.depth hr) (KX _ _ lk) rfl S.co S.gen rfl (PySem.W.codeRec_of KX hcd) (hbd _ _ _ _ ?_)
  refine wpAny_newFunctionEnv_cells S.kind hkind fun env he s1 ic => ?_
  subst he
  refine ⟨lim.keeps ic.toInCall.keep, codeAny_func ?_⟩
  obtain ⟨t, ht, hq⟩ := hb cdv A out s H vs Q p (hr.deeper _) q
  have J := inv_startH (CX := CX0) (E := E0) S hpin e0 hl r ic
  refine wpAny_mono (ht.run [] s1 (start N vs) H _ J hq) (fun fl s2 z => ?_) fun er s2 z => z
  cases fl with
  | ret u => obtain ⟨v, σ2, H2, J2, rv, q2⟩ := z; exact ⟨v, H2, J2.os, J2.bare, J2.base, J2.hok, rv, q2⟩
  | next => obtain ⟨σ2, H2, J2, q2⟩ := z; exact ⟨V.non, H2, J2.os, J2.bare, J2.base, J2.hok, rfl, q2⟩
  | brk => obtain ⟨_, _, _, z2⟩ := z; exact z2.elim
  | cont => obtain ⟨_, _, _, z2⟩ := z; exact z2.elim
end
section
variable {X : Cx} {k : Nat} {x : Str} {ps : List Str} {sp : Addr × Obj → Sp} {p : Addr × Obj} {q pos : Pos} {e : Expr} {es : List Expr} {t : TA}
/-- a call within an except suite, or within a def called there -/
theorem pe_p (h : HasP X.prog X.w X.K X.mg X.base k x ps sp) (hp : p ∈ X.pn) (hr : RoomH k X.A) (ha : PA X (e :: es) t) (hg : Gl X x := by rfl) (hdb : (x == ("__debug__" : Str)) = false := by decide)
    (he : starEach (e :: es) X.env = (false, eval e X.env) :: starEach es X.env := by rfl) (hpl : (backTo pos (starEach es X.env)).any (·.1) = false := by rfl) :
    PE X (.Call (.Name x q) (e :: es) [] pos) (tCall (sp p) [] E0 t) := by
  obtain ⟨f, fd, F, hm, hk, hb⟩ := h.ex
  refine ⟨fun pins s σ H Q I g => ?_⟩
  refine wpAny_Call_Name_kw (ld_glob I hg hm ?_ hdb)
  refine PySem.W.callWith_K (h₀ := X.base) I.ok.mod.kin hk (thn (ha.run pos pins s σ H _ I g) fun us s1 hq => ?_) he hpl
  obtain ⟨vs, H1, I1, r, q1⟩ := hq
  have q2 : sp p vs H1 Q E0 := by rw [List.append_nil] at q1; exact q1
  have P1 := I1.pin p (List.mem_append_left pins hp)
  have hpin : PinOk X.stack H1 s1 p := ⟨P1.1, P1.2.1, fun hm => Or.elim (List.mem_cons.mp (Inv.stkSub I1 p.1 hm)) P1.2.2.1 P1.2.2.2.1, P1.2.2.2.2⟩
  refine ⟨I1.kIn, wpAny_call (codeAny_mono (F.go X.A X.stack s1 H1 us vs Q p hr hpin I1.env0 ?_ r q2) fun rr s2 z => ?_)⟩
  · have := hb s1 us I1.kIn (by rw [List.append_nil, ← r.length]; exact F.len _ _ _ _ _ q2)
    rw [List.append_nil] at this; exact this
  · cases rr with
    | error er => exact z.elim
    | ok fl => cases fl with
      | ret u => exact I1.after z
      | next => exact z.elim
      | brk => exact z.elim
      | cont => exact z.elim
/-! ## what an error that is handled is asked -/
/-- what the written part says of an error's class -/
structure ExcK (K : PySem.W.Frag) (C : Addr) : Prop where
  ic : (PySem.W.clsIn K C).isSome = true
  ga : PySem.W.findIn K (.ref C) "__getattribute__" = some (some (.builtin "BaseException.__getattribute__"))
  gg : PySem.W.findIn K (.ref C) "__getattr__" = some none
  sb : PySem.W.subIn K (.ref C) (.type "BaseException") = some true
  ca : PySem.W.findIn K (.ref C) "__class__" = some (some (.builtin "object.__class__"))
  cb : PySem.W.specialIn K (.builtin "object.__class__") "__get__" = some (some (.builtin "getset_descriptor.__get__"))
  cc : PySem.W.takesIn K (.builtin "object.__class__") = some true
  cm : PySem.W.mroIn K C (.type "object") = some true
  hd : PySem.W.hasDictIn K C = true
/-- an error at p: its class, its fields -/
def ErrAt (H : Hp) (p : Addr × Obj) (C : Addr) (fs : List (Str × V)) : Prop := (∃ vs, p.2.data = Data.fields vs) ∧ ((∃ d, Zc (.ref C) (some d) p.2 ∧ H d = some (.xd fs)) ∨ (Zc (.ref C) none p.2 ∧ fs = []))
theorem ErrAt.mono {H H' : Hp} {p : Addr × Obj} {C : Addr} {fs : List (Str × V)} (h : ErrAt H p C fs) (s : Same H H') : ErrAt H' p C fs := by
  obtain ⟨h2, ⟨d, h1, h3⟩ | h1⟩ := h
  · exact ⟨h2, .inl ⟨d, h1, s _ _ h3⟩⟩
  · exact ⟨h2, .inr h1⟩
theorem err_inst {X : Cx} {pins : List (Addr × Obj)} {σ : L2.St} {H : Hp} {s : Shared} {p : Addr × Obj} {C : Addr} {fs : List (Str × V)} {f : Str} {v : V} (I : L2.Inv X pins σ H s) (hp : p ∈ X.pn) (h : ErrAt H p C fs) (hv : List.lookup f fs = some v) :
    ∃ (od : Obj) (mA : Str → Option Value), PySem.W.InstAt s.heap p.1 p.2 C (some od) ∧ (∀ name : Str, PySem.W.lookIn name od = some (mA name)) ∧ ∀ f : Str, RelO (List.lookup f fs) (mA f) := by
  obtain ⟨⟨vs, hd⟩, ⟨d, hz, hx⟩ | ⟨_, rfl⟩⟩ := h
  · obtain ⟨mA, hns, hr⟩ := I.hok d _ hx
    obtain ⟨od, ho, hl⟩ := lookIn_ns hns
    exact ⟨od, mA, ⟨(I.pin p (List.mem_append_left pins hp)).1, hz.1, by unfold PySem.W.notCls; rw [hd] <;> rfl, by rw [hz.2]; exact ho⟩, hl, hr⟩
  · cases hv
theorem err_inst0 {X : Cx} {pins : List (Addr × Obj)} {σ : L2.St} {H : Hp} {s : Shared} {p : Addr × Obj} {C : Addr} {fs : List (Str × V)} (I : L2.Inv X pins σ H s) (hp : p ∈ X.pn) (h : ErrAt H p C fs) : ∃ od : Option Obj, PySem.W.InstAt s.heap p.1 p.2 C od := by
  obtain ⟨⟨vs, hd⟩, ⟨d, hz, hx⟩ | ⟨hz, _⟩⟩ := h
  · obtain ⟨mA, hns, hr⟩ := I.hok d _ hx
    obtain ⟨od, ho, hl⟩ := lookIn_ns hns
    exact ⟨some od, ⟨(I.pin p (List.mem_append_left pins hp)).1, hz.1, by unfold PySem.W.notCls; rw [hd] <;> rfl, by rw [hz.2]; exact ho⟩⟩
  · exact ⟨none, ⟨(I.pin p (List.mem_append_left pins hp)).1, hz.1, by unfold PySem.W.notCls; rw [hd] <;> rfl, by rw [hz.2]; trivial⟩⟩
/-- isinstance(e, T) -/
def rIsP (K : PySem.W.Frag) (p : Addr × Obj) : List V → Hp → VK → Prop := fun xs H Q => ∃ (c : V) (cv : Value) (b : Bool) (C : Addr) (fs : List (Str × V)), xs = [.ref p.1, c] ∧ (∀ u, RelV c u → u = cv) ∧ ExcK K C ∧ ErrAt H p C fs ∧ PySem.W.kitOne K (.ref C) cv = some b ∧ Q (.bl b) H
theorem call_isP {p : Addr × Obj} (hp : p ∈ X.pn) : CallR X (.builtin "isinstance") (rIsP X.K p) := by
  intro pins s σ H xs us Q I r h
  obtain ⟨c, cv, b, C, fs, rfl, hcv, hK, hE, e, q⟩ := h
  cases r with
  | cons q1 rest =>
    cases rest with
    | cons q2 rest =>
      cases rest
      cases q1
      have ec := hcv _ q2
      subst ec
      obtain ⟨od, J⟩ := err_inst0 I hp hE
      exact PySem.W.kia_one (PySem.W.kitx_exc hK.ic hK.ga hK.gg hK.sb hK.ca hK.cb hK.cc hK.cm) I.kIn J e (fun z => nomatch z) fun tk => ⟨.bl b, H, I.kept fun _ _ z => z, rfl, q⟩
/-- e.f -/
def tErr (K : PySem.W.Frag) (p : Addr × Obj) (f : Str) (te : TE) : TE := fun σ H Q => te σ H fun x H1 => x = .ref p.1 ∧ ∃ (C : Addr) (fs : List (Str × V)) (v : V), ExcK K C ∧ PySem.W.findIn K (.ref C) f = some none ∧ ErrAt H1 p C fs ∧ List.lookup f fs = some v ∧ Q v H1
theorem pe_err {p : Addr × Obj} {e : Expr} {te : TE} {f : Str} {pos : Pos} (hp : p ∈ X.pn) (he : PE X e te) (hb : attributeBase e f X.env (eval e X.env) = eval e X.env := by rfl) : PE X (.Attribute e f pos) (tErr X.K p f te) := by
  refine ⟨fun pins s σ H Q I h => ?_⟩
  refine attr_of hb (thn (he.run pins s σ H _ I h) fun u s1 hh => ?_)
  obtain ⟨x, H1, I1, rx, ex, C, fs, v, hK, noN, hE, hl, q⟩ := hh
  subst ex
  obtain rfl : u = Value.ref p.1 := rx
  obtain ⟨od, mA, J, hlk, hr⟩ := err_inst I1 hp hE hl
  obtain ⟨u, hu, ru⟩ := RelO.some_of (v := v) (o := mA f) (by rw [← hl]; exact hr f)
  exact HandSPX.exc_get I1.kIn J hK.ga hK.gg hK.sb (PySem.W.findObj_own hK.hd noN rfl (by rw [hlk, hu])) (handed_of ru) ⟨v, H1, I1.tok _, ru, q⟩
end
/-! ## own errors of one field are raised -/
def spErr (C : Addr) (fld : Str) : Sp := fun vs H Q _ => ∃ (a : Addr) (v : V), vs = [.ref a, v] ∧ H a = some (exo a C none) ∧ ∀ d, H d = none → d ≠ a → Q .non (upd (upd H d (exd d [(fld, v)])) a (exo a C (some d)))
/-- what is behind the making of an error -/
theorem mk_err {C : Addr} {fld : Str} {v : V} {H1 : Hp} {Q : XK} (q : ∀ d, H1 d = none → Q (.ref C) (some d) (upd H1 d (.xd [(fld, v)]))) :
    [v].length ≤ 1000 ∧ ∀ a : Addr, H1 a = none → spErr C fld (.ref a :: ([v] ++ [])) (upd H1 a (exo a C none))
      (fun v H2 => v = .non ∧ ∃ (d : Addr) (fs : List (Str × V)), H2 a = some (exo a C (some d)) ∧ H2 d = some (exd d fs) ∧ H1 d = none ∧ Q (.ref C) (some d) (upd (del H2 a) d (.xd fs))) (fun _ _ _ => False) := by
  refine ⟨by show 1 ≤ 1000; decide, fun a ha => ⟨a, v, rfl, upd_same, fun d hd hne => ⟨rfl, d, [(fld, v)], upd_same, ?_, ?_, ?_⟩⟩⟩
  · rw [upd_ne hne, upd_same]
  · rw [upd_ne hne] at hd; exact hd
  · have hd' : H1 d = none := by rw [upd_ne hne] at hd; exact hd
    have e : upd (del (upd (upd (upd H1 a (exo a C none)) d (exd d [(fld, v)])) a (exo a C (some d))) a) d (.xd [(fld, v)]) = upd H1 d (.xd [(fld, v)]) := by
      funext b
      by_cases h1 : b = d
      · rw [h1, upd_same, upd_same]
      · rw [upd_ne h1, upd_ne h1]
        by_cases h2 : b = a
        · rw [h2, del_same, ha]
        · rw [del_ne h2, upd_ne h2, upd_ne h1, upd_ne h2]
    rw [e]
    exact q d hd'
end Ts
namespace Ts
open PySem PySem.Spec PyProof.Rows L2 L2H LamX
/-! ## lists of truths: how often, and where first -/
/-! ## the classes of errors that the laws tell apart -/
structure Cls11 where
  (t n m s g l o f u y a : Addr)
abbrev Cls11.list (c : Cls11) : List Addr := [c.t, c.n, c.m, c.s, c.g, c.l, c.o, c.f, c.u, c.y, c.a]
structure Bas3 where
  (v w x : Addr)
end Ts
namespace Ts
open PySem PySem.Spec PyProof.Rows L2 L2H LamX
/-- what repr says of a value -/
def ShownV (K : PySem.W.Frag) (H : Hp) (v : V) (t : Str) : Prop := ∃ d, Dp K H v d ∧ d.showable = true ∧ d.hasDict = false ∧ d.depth < 60 ∧ d.shown.length ≤ sizeLine ∧ t = d.shown
theorem ShownV.mono {K : PySem.W.Frag} {H H' : Hp} {v : V} {t : Str} (h : ShownV K H v t) (s : Same H H') : ShownV K H' v t := by
  obtain ⟨d, h1, h2⟩ := h
  exact ⟨d, h1.mono s, h2⟩
end Ts
namespace Ts
open PySem PySem.Spec PyProof.Rows L2 LamX
/-! ## the law is called, no repr around, where lambdas are made: tables of code are told, too -/
def tellT (ts : List Addr) (yes : Bool) (a : Addr) (vs : List Value) (ns : List Int) : Hp := fun c => if c ∈ ts then some (.tbl #[]) else tells yes a vs ns c
theorem end_GT {P : Program} {w : World} {K : PySem.W.Frag} {mg mb : Str → Option Value} {k : Nat} {fa a : Addr} {cs : List (Addr × Addr)} {fd : FuncData} {x : Str} {sp : Sp} {t : Shared} {vs : List Value} {ns : List Int}
    (inK : K.In t.heap) (nsM : t.heap.Ns mainGlobals mg) (nsB : t.heap.Ns builtinsNs mb) (boot : ∀ y : Str, y ≠ "__name__" → mb y = bootBuiltins y) (lim : t.heap.NoLimit) (gens : t.gens = #[])
    (hT : ∀ p ∈ cs, t.heap.get? p.2 = some { cls := .none, data := .fields #[] }) (nT : ∀ p ∈ cs, K.lookup p.2 = none) (C : ∀ p ∈ cs, PySem.W.CodeHd t.heap p.1 p.2)
    (hbm : ∃ bm ob, mg "__builtins__" = some (.ref bm) ∧ bm ≠ builtinsNs ∧ t.heap.get? bm = some ob ∧ ob.cls = .type "module" ∧ ob.dict = some builtinsNs ∧ ob.data = .plain)
    (at_ : t.heap.get? a = some { cls := .type "list", data := .seq vs.toArray }) (allInt : IntsAre vs ns) (few : ns.length ≤ sizeLine) (room : Room k callerA)
    (G : ∀ base : Heap, K.In base → base.Ns mainGlobals mg → (∀ p ∈ cs, TabB base mg p.1 p.2) → FnG P w K mg base k fa fd [x] sp) (bind : ∀ (s : Shared) (u : Value), BindsTo s fd ⟨[u], []⟩ [(x, u)])
    (good : ∀ H : Hp, (∀ p ∈ cs, H p.2 = some (.tbl #[])) → SqL K H a (ns.map V.int) → sp [.ref a] H (fun v _ => v = .bl true) E0) :
    codeAny (model P w) callerA (.call (.ref fa) ⟨[.ref a], []⟩) (fun r z => r = .ok (.ret (.bool true)) ∧ OldK t.heap z.heap ∧ z.os = t.os ∧ AllBare z.gens) t := by
  have vals := vals_ints allInt
  have isT : ∀ c ∈ cs.map Prod.snd, t.heap.get? c = some { cls := .none, data := .fields #[] } ∧ K.lookup c = none := fun c hc => by
    obtain ⟨p, hp, rfl⟩ := List.mem_map.mp hc
    exact ⟨hT p hp, nT p hp⟩
  have aT : a ∉ cs.map Prod.snd := fun z => by
    have := (isT a z).1
    rw [at_] at this
    cases this
  generalize hy : (K.lookup a).isNone = yes
  have H0 : ∃ H, H = tellT (cs.map Prod.snd) yes a vs ns := ⟨_, rfl⟩
  obtain ⟨H, eH⟩ := H0
  have told : ∀ {c : Addr} {u : HO}, H c = some u → (c ∈ cs.map Prod.snd ∧ u = .tbl #[]) ∨ (c = a ∧ yes = true ∧ u = .frz { cls := .type "list", data := .seq vs.toArray } (.lst (ns.map V.int))) := fun {c u} h => by
    rw [eH] at h
    unfold tellT at h
    split at h
    · exact .inl ⟨by assumption, (Option.some.inj h).symm⟩
    · exact .inr (tells_at h)
  have tabs : ∀ p ∈ cs, H p.2 = some (.tbl #[]) := fun p hp => by
    rw [eH]; unfold tellT
    rw [if_pos (List.mem_map.mpr ⟨p, hp, rfl⟩)]
  have okH : HOk P w H t.heap := fun c u h => by
    rcases told h with ⟨h1, rfl⟩ | ⟨rfl, _, rfl⟩
    · exact (isT c h1).1
    · exact ⟨at_, by rw [List.length_map]; exact few, vs, _, vals, at_⟩
  have seqH : SqL K H a (ns.map V.int) := by
    cases e : K.lookup a with
    | none =>
      have yt : yes = true := by rw [← hy, e]; rfl
      refine .inl (.inr ⟨{ cls := .type "list", data := .seq vs.toArray }, ?_⟩)
      rw [eH]; unfold tellT tells
      rw [if_neg aT, if_pos rfl, if_pos yt]
    | some o =>
      have eo := inK a o e
      rw [at_] at eo
      cases eo
      exact .inr ⟨_, vs.toArray, _, e, rfl, rfl, rfl, by rw [List.size_toArray, allInt.length]; exact few, by simpa using vals⟩
  have still : ∀ {c : Addr} {o : Obj}, t.heap.get? c = some o → H c = none → (hidT t.heap H).get? c = some o := fun e n => hidT_get e n
  -- what is told is a list or a table
  have off : ∀ {c : Addr} {o : Obj}, t.heap.get? c = some o → (∀ vs n, o.data ≠ .seq vs n) → o.data ≠ .fields #[] → H c = none := fun {c o} e h1 h2 => by
    cases hc : H c with
    | none => rfl
    | some u =>
      rcases told hc with ⟨h3, _⟩ | ⟨rfl, _, _⟩
      · have := (isT c h3).1
        rw [e] at this
        cases this
        exact absurd rfl h2
      · rw [at_] at e
        cases e
        exact absurd rfl (h1 _ _)
  have dicts : ∀ {c : Addr} {m : Str → Option Value}, t.heap.Ns c m → (hidT t.heap H).Ns c m := by
    rintro c m ⟨o, es, ep, e, d, r⟩
    exact ⟨o, es, ep, still e (off e (fun vs n z => by rw [d] at z; cases z) (fun z => by rw [d] at z; cases z)), d, r⟩
  have kept : K.In (hidT t.heap H) := fun c o e => still (inK c o e) (by
    cases hc : H c with
    | none => rfl
    | some u =>
      rcases told hc with ⟨h3, _⟩ | ⟨rfl, h2, _⟩
      · have := (isT c h3).2
        rw [e] at this; cases this
      · rw [← hy, e] at h2; cases h2)
  have limits : (hidT t.heap H).NoLimit := by
    obtain ⟨mc, h1, h2⟩ := lim
    exact ⟨mc, dicts h1, h2⟩
  have TB : ∀ p ∈ cs, TabB (hidT t.heap H) mg p.1 p.2 := fun p hp => by
    have hTp := hT p hp
    refine ⟨?_, ?_, ?_⟩
    · obtain ⟨o, us, file, tf, flags, tg, inF, text, tt, e1, r1, r2, r3, r4⟩ := C p hp
      refine ⟨o, us, file, tf, flags, tg, inF, text, tt, still e1 (off e1 (fun vs n z => by rw [r2] at z; cases z) (fun z => ?_)), r1, r2, r3, r4⟩
      rw [r2] at z
      cases z
      simp at r3
    · obtain ⟨bm, ob, b1, b2, b3, b4, b5, b6⟩ := hbm
      refine ⟨bm, ob, b1, b2, fun q => ?_, fun q => ?_, still b3 (off b3 (fun vs n z => by rw [b6] at z; cases z) (fun z => by rw [b6] at z; cases z)), b4, b5, b6⟩
      · obtain ⟨o, es, ep, e, hd, _⟩ := nsM
        rw [q, e] at b3
        cases b3
        rw [hd] at b6; cases b6
      · rw [q, hTp] at b3
        cases b3
        cases b6
    · intro z
      obtain ⟨o, es, ep, e, hd, _⟩ := nsM
      rw [z, hTp] at e
      cases e
      cases hd
  have start0 : Env0 P w K mg (hidT t.heap H) callerA [] t H :=
    { frames := rfl, mod := ⟨kept, dicts nsM, ⟨mb, dicts nsB, boot⟩, limits⟩, bs := fun c o e => of_hidT e, bsz := Nat.le_of_eq (hidT_size _ _), funs := trivial, frf := fun c hc => absurd (show c ∈ ([] : List Addr) from hc) (by simp), hok := okH, bare := .of_eq gens }
  refine codeAny_mono ((G _ kept (dicts nsM) TB).go callerA [] t H [.ref a] [.ref a] _ rfl room start0 (bind t (.ref a)) (.cons rfl .nil) (good H tabs seqH)) fun r z h => ?_
  cases r with
  | error e => exact h.elim
  | ok fl => cases fl with
    | next => exact h.elim
    | brk => exact h.elim
    | cont => exact h.elim
    | ret u =>
      obtain ⟨v, H2, g1, g2, un, ok2, rv, ev⟩ := h
      have ev2 : v = .bl true := ev
      subst ev2
      obtain rfl : u = Value.bool true := rv
      have key : ∀ c o, c ∉ cs.map Prod.snd → t.heap.get? c = some o → z.heap.get? c = some o := fun c o nb e => by
        cases hc : H c with
        | none => exact un.keep c o e hc (fun m => absurd (show c ∈ ([] : List Addr) from m) (by simp)) (by simp)
        | some u =>
          rcases told hc with ⟨h3, _⟩ | ⟨rfl, _, rfl⟩
          · exact absurd h3 nb
          · obtain ⟨e2, _⟩ := ok2 _ _ (un.frzs _ _ _ hc)
            rw [at_] at e
            rw [← Option.some.inj e]
            exact e2
      have grown : ∀ p ∈ cs, ∃ more, z.heap.get? p.2 = some { cls := .none, data := .fields (#[] ++ more) } := fun p hp => by
        obtain ⟨more, e⟩ := un.tbls p.2 #[] (tabs p hp)
        exact ⟨more, ok2 _ _ e⟩
      refine ⟨rfl, ⟨fun c o e => ?_, fun c o e => ?_⟩, g1, g2⟩
      · by_cases hb : c ∈ cs.map Prod.snd
        · obtain ⟨p, hp, rfl⟩ := List.mem_map.mp hb
          obtain ⟨more, hm⟩ := grown p hp
          have e' := hT p hp
          rw [e] at e'
          cases e'
          refine .inr (.inl ⟨Heap.TableAt.isCodeTable (PySem.W.CodeHd.tab (C p hp) (hT p hp)), rfl, #[], more, rfl, hm⟩)
        · exact .inl (key c o hb e)
      · by_cases hb : c ∈ cs.map Prod.snd
        · obtain ⟨p, hp, rfl⟩ := List.mem_map.mp hb
          obtain ⟨more, hm⟩ := grown p hp
          exact ⟨_, hm⟩
        · exact ⟨o, key c o hb e⟩
end Ts
namespace Ts
open PySem PySem.Spec PyProof.Rows L2 L2H LamX
/-! ## defs that make lambdas: their code is known -/
/-- a def that stands at the top under its name, its code at c -/
structure DefAtC (K : PySem.W.Frag) (mg : Str → Option Value) (x : Str) (st : Stmt) (c : Addr) : Prop where
  ex : ∃ f fd, Fun K x x st f fd ∧ mg x = some (.ref f) ∧ fd.code = .ref c
theorem DefAtC.hasG {P : Program} {w : World} {K : PySem.W.Frag} {mg : Str → Option Value} {base : Heap} {x : Str} {st : Stmt} {k : Nat} {c : Addr} {ps : List Str} {sp : Sp} (D : DefAtC K mg x st c)
    (hb : ∀ (kV doc pm : Value) (an : Option Addr) (cdv ct : Value) (us : List Value), us.length = ps.length → bindArgs (PySem.W.fnOf x x (defArgs st) (defBody st) (defScope st) .none kV doc pm an cdv ct) ⟨us, []⟩ = pure (ps.zip us))
    (ok : ∀ f fd, Fun K x x st f fd → fd.code = .ref c → FnG P w K mg base k f fd ps sp) : HasG P w K mg base k x ps sp := by
  obtain ⟨f, fd, F, hm, hc⟩ := D.ex
  exact ⟨f, fd, ok f fd F hc, hm, F.kp, F.binds hb⟩
theorem fun_gc {P : Program} {w : World} {K : PySem.W.Frag} {mg : Str → Option Value} {base : Heap} {x qual : Str} {st : Stmt} {f c : Addr} {fd : FuncData} {N ps : List Str} {k : Nat} {sp : Sp} (F : Fun K x qual st f fd) (hcode : fd.code = .ref c) (S : FnScope N ps (defScope st))
    (ln : ∀ vs H Q E, sp vs H Q E → vs.length = ps.length)
    (hb : ∀ (A : Around) (out : List Env) (s : Shared) (H : Hp) (vs : List V) (Q : VK), A.guards = some [] → Room k (A.deeper (envOfC qual (defScope st) s.heap.objs.size f (.ref c))) → sp vs H Q E0 →
      ∃ t, PSs (cxOf CX0 P w K mg base N qual (defScope st) f (.ref c) A out s H E0).nox (defBody st) t ∧ t { nx := fun _ H' => Q .non H', rt := Q } (start N vs) H) : FnG P w K mg base (k + 1) f fd ps sp := by
  obtain ⟨oc, od, kV, doc, pm, an, cdv, ct, osl, rfl, lk, hcd⟩ := F.ex
  have ec : cdv = .ref c := hcode
  subst ec
  refine ⟨ln, fun A out s H us vs Q hg hr e0 hbd r q => ?_⟩
  have kin : K.In s.heap := e0.mod.kin.keeps fun b o e => (e0.bs b o e).1
  have lim : s.heap.NoLimit := e0.mod.nolimit.keeps fun b o e => (e0.bs b o e).1
  have hvl : vs.length = ps.length := ln _ _ _ _ q
  have kinds : ∀ y ∈ ps.zip us, (defScope st).names.lookup y.1 = some .local ∨ ((defScope st).names.lookup y.1 = some .cell ∧ ((cellsFrom (s.heap.objs.size + 1) (defScope st).names []).lookup y.1).isSome = true) := by
    intro y hy
    have hm : y.1 ∈ ps := (List.of_mem_zip (a := y.1) (b := y.2) hy).1
    rcases S.par _ hm with z | z
    · exact Or.inl z
    · exact Or.inr ⟨z, PySem.W.cellsFrom_some _ _ _ (Or.inl z)⟩
  refine codeAny_call_function hr.depth (kin _ _ lk) rfl S.co S.gen rfl (PySem.W.codeRec_of kin hcd) (hbd _ _ _ _ ?_)
  refine wpAny_newFunctionEnv_cells S.kind kinds fun env he s1 ic => ?_
  subst he
  refine ⟨lim.keeps ic.toInCall.keep, codeAny_func ?_⟩
  obtain ⟨t, ht, hq⟩ := hb A out s H vs Q hg (hr.deeper _) q
  have J := inv_start (CX := CX0) (E := E0) S hr.hd e0 hvl r ic
  refine wpAny_mono (ht.nox.run [] s1 (start N vs) H _ J hq) (fun fl s2 z => ?_) fun er s2 z => z
  cases fl with
  | ret u => obtain ⟨v, σ2, H2, J2, rv, q2⟩ := z; exact ⟨v, H2, J2.os, J2.bare, J2.base, J2.hok, rv, q2⟩
  | next => obtain ⟨σ2, H2, J2, q2⟩ := z; exact ⟨V.non, H2, J2.os, J2.bare, J2.base, J2.hok, rfl, q2⟩
  | brk => obtain ⟨_, _, _, z2⟩ := z; exact z2.elim
  | cont => obtain ⟨_, _, _, z2⟩ := z; exact z2.elim
/-! ## the law, where lambdas are made -/
def spLawT (K : PySem.W.Frag) (T : List (Addr × Str)) : Sp := fun vs H Q _ => ∃ (a : Addr) (ns : List Int), vs = [.ref a] ∧ SqL K H a (ns.map V.int) ∧ ns.length ≤ 63 ∧ (∀ p ∈ T, H p.1 = some (.tbl #[])) ∧ ∀ H', Q (.bl true) H'
end Ts
namespace Ts
open PySem PySem.Spec PyProof.Rows L2 L2H LamX
/-! ## defs that raise -/
section
variable (P : Program) (w : World) (K : PySem.W.Frag) (mg : Str → Option Value) (base : Heap)
structure HasX (k : Nat) (x : Str) (ps : List Str) (sp : Sp) : Prop where
  ex : ∃ f fd, FnOk P w K mg base (L2.CX P w) k f fd ps sp ∧ mg x = some (.ref f) ∧ PySem.W.keepIn K (.ref f) = true ∧ Binds K fd ps []
/-- .. called with names alone, given in another order -/
structure HasQX (k : Nat) (x : Str) (ps ks : List Str) (turned : {α : Type} → List α → List α) (sp : Sp) : Prop where
  ex : ∃ f fd, FnOk P w K mg base (L2.CX P w) k f fd ps sp ∧ mg x = some (.ref f) ∧ PySem.W.keepIn K (.ref f) = true ∧ ∀ (s : Shared) (ws : List Value), ws.length = ks.length → BindsTo s fd ⟨[], ks.zip ws⟩ (ps.zip (turned ws))
  rel : ∀ {vs : List V} {us : List Value}, Vals vs us → Vals (turned vs) (turned us)
end
section
variable {P : Program} {w : World} {K : PySem.W.Frag} {mg : Str → Option Value} {base : Heap}
theorem DefAt.hasX {x : Str} {st : Stmt} {k : Nat} {ps : List Str} {sp : Sp} (D : DefAt K mg x st)
    (hb : ∀ (kV doc pm : Value) (an : Option Addr) (cdv ct : Value) (us : List Value), us.length = ps.length → bindArgs (PySem.W.fnOf x x (defArgs st) (defBody st) (defScope st) .none kV doc pm an cdv ct) ⟨us, []⟩ = pure (ps.zip us))
    (ok : ∀ f fd, Fun K x x st f fd → FnOk P w K mg base (L2.CX P w) k f fd ps sp) : HasX P w K mg base k x ps sp := by
  obtain ⟨f, fd, F, hm⟩ := D.ex
  exact ⟨f, fd, ok f fd F, hm, F.kp, F.binds hb⟩
theorem DefAt.hasQX {x : Str} {st : Stmt} {k : Nat} {ps : List Str} (ks : List Str) (turned : {α : Type} → List α → List α) {sp : Sp} (D : DefAt K mg x st) (rel : ∀ {vs : List V} {us : List Value}, Vals vs us → Vals (turned vs) (turned us))
    (hb : ∀ (kV doc pm : Value) (an : Option Addr) (cdv ct : Value) (ws : List Value), ws.length = ks.length → bindArgs (PySem.W.fnOf x x (defArgs st) (defBody st) (defScope st) .none kV doc pm an cdv ct) ⟨[], ks.zip ws⟩ = pure (ps.zip (turned ws)))
    (ok : ∀ f fd, Fun K x x st f fd → FnOk P w K mg base (L2.CX P w) k f fd ps sp) : HasQX P w K mg base k x ps ks turned sp := by
  obtain ⟨f, fd, F, hm⟩ := D.ex
  refine ⟨⟨f, fd, ok f fd F, hm, F.kp, fun s ws hl => ?_⟩, rel⟩
  obtain ⟨oc, od, kV, doc, pm, an, cdv, ct, osl, rfl, lk, hcd⟩ := F.ex
  exact .of_eq (hb kV doc pm an cdv ct ws hl)
end
/-- f(..), f a def that may raise -/
theorem pe_x {X : Cx} {k : Nat} {x : Str} {ps : List Str} {sp : Sp} {W : WX} {p pos : Pos} {e : Expr} {es : List Expr} {t : TA} (h : HasX X.prog X.w X.K X.mg X.base k x ps sp) (hr : Room k X.A) (tk : Takes X W) (ha : PA X (e :: es) t) (hg : Gl X x := by rfl)
    (hdb : (x == ("__debug__" : Str)) = false := by decide) (he : starEach (e :: es) X.env = (false, eval e X.env) :: starEach es X.env := by rfl) (hpl : (backTo pos (starEach es X.env)).any (·.1) = false := by rfl) :
    PE X (.Call (.Name x p) (e :: es) [] pos) (tCallS sp (WE W) t) := by
  obtain ⟨f, fd, F, hm, hk, hb⟩ := h.ex
  exact pe_callS F hr hg hm hk hb (fun σ => passAt tk σ) ha hdb he hpl
def tCallQX (sp : Sp) (m : Nat) (turned : List V → List V) (W : WX) (tk : TA) : TE := fun σ H Q => tk σ H fun zs H2 => zs.length = m ∧ sp (turned zs) H2 Q (WE W σ)
theorem pe_hqx {X : Cx} {k : Nat} {x : Str} {ps ks : List Str} {turned : {α : Type} → List α → List α} {sp : Sp} {W : WX} {p pos : Pos} {kws : List Keyword} {tk : TA} (h : HasQX X.prog X.w X.K X.mg X.base k x ps ks turned sp) (hr : Room k X.A) (tkW : Takes X W) (hkw : PK X kws tk) (hg : Gl X x := by rfl)
    (hdb : (x == ("__debug__" : Str)) = false := by decide) (hall : (backToKw pos (keywordEach kws X.env)).all (·.1.isSome) = true := by rfl) (hks : (backToKw pos (keywordEach kws X.env)).filterMap (·.1) = ks := by rfl)
    (hpl : ((backTo pos (starEach [] X.env)).any (·.1) || (backToKw pos (keywordEach kws X.env)).any (·.1.isNone)) = false := by rfl) :
    PE X (.Call (.Name x p) [] kws pos) (tCallQX sp ks.length turned W tk) := by
  obtain ⟨f, fd, F, hm, hk, hb⟩ := h.ex
  refine ⟨fun pins s σ H Q I q0 => ?_⟩
  refine wpAny_Call_Name_kw (ld_glob I hg hm ?_ hdb)
  refine PySem.W.callWith_KW0 (h₀ := X.base) I.ok.mod.kin hk hall ?_ hpl
  refine thn (hkw.run pos pins s σ H _ I q0) fun ws s2 ⟨zs, H2, I2, rz, l2, q2⟩ => ⟨I2.kIn, ?_⟩
  rw [hks]
  have lw : ws.length = ks.length := by rw [← rz.length]; exact l2
  refine wpAny_call (codeAny_mono (F.run X.A X.stack s2 H2 ⟨[], ks.zip ws⟩ (turned ws) (turned zs) Q (WE W σ) hr I2.env0 (hb s2 ws lw) (h.rel rz) q2) fun r s' hq => ?_)
  cases r with
  | error er => exact passAt tkW σ pins H2 s2 er s' I2 hq
  | ok fl => cases fl with
    | ret u => exact I2.after hq
    | next => exact hq.elim
    | brk => exact hq.elim
    | cont => exact hq.elim
/-! ## values of any kind -/
/-- what a number is asked: o is the number, none what is no integer -/
def KindV (K : PySem.W.Frag) (H : Hp) (v : V) : Option Int → Prop
  | some i => v = .int i
  | none => ∃ T, T ∈ ["bool", "str", "NoneType", "list", "tuple", "dict"] ∧ TyX K H v (.type T)
theorem TyX.mono {K : PySem.W.Frag} {H H' : Hp} {x : V} {t : Value} (h : TyX K H x t) (s : Same H H') : TyX K H' x t := by
  cases h with
  | base b => exact .base (match b with
    | .non => .non
    | .bl x => .bl x
    | .int i => .int i
    | .str x => .str x
    | .flt x => .flt x
    | .lst e => .lst (s _ _ e)
    | .frz e => .frz (s _ _ e)
    | .tup e => .tup (s _ _ e)
    | .dK e => .dK (s _ _ e)
    | .dT e => .dT (s _ _ e)
    | .ins e a b c d f => .ins (s _ _ e) a b c d f)
  | byt b => exact .byt b
  | set e => exact .set (s _ _ e)
  | kList e c => exact .kList e c
  | kTuple e c => exact .kTuple e c
  | kDict e c => exact .kDict e c
  | fTuple e => exact .fTuple (s _ _ e)
  | fDict e => exact .fDict (s _ _ e)
theorem KindV.mono {K : PySem.W.Frag} {H H' : Hp} {v : V} {o : Option Int} (h : KindV K H v o) (s : Same H H') : KindV K H' v o := by
  cases o with
  | some i => exact h
  | none => obtain ⟨T, h1, h2⟩ := h; exact ⟨T, h1, TyX.mono h2 s⟩
def inRg (o : Option Int) (lo hi : Int) : Bool := match o with
  | some i => decide (lo ≤ i ∧ i ≤ hi)
  | none => false
def spIsNumberFromA (K : PySem.W.Frag) : Sp := fun vs H Q _ => ∃ (v : V) (lo : Int) (o : Option Int), vs = [v, .int lo] ∧ KindV K H v o ∧ Q (.bl (match o with | some i => decide (lo ≤ i) | none => false)) H
def spIsNumberA (K : PySem.W.Frag) : Sp := fun vs H Q _ => ∃ (v : V) (lo hi : Int) (o : Option Int), vs = [v, .int lo, .int hi] ∧ KindV K H v o ∧ Q (.bl (inRg o lo hi)) H
/-- an error of the class at C that keeps v under fld -/
def Raise1 (C : Addr) (fld : Str) (v : V) (H : Hp) (E : XK) : Prop := ∀ (H' : Hp) (d : Addr), Same H H' → H' d = none → E (.ref C) (some d) (upd H' d (.xd [(fld, v)]))
def spCheckNumberX (K : PySem.W.Frag) (C : Addr) : Sp := fun vs H Q E => ∃ (v : V) (lo hi : Int) (o : Option Int), vs = [v, .int lo, .int hi] ∧ KindV K H v o ∧ (inRg o lo hi = true → Q .non H) ∧ (inRg o lo hi = false → Raise1 C "given" v H E)
/-- a thing that may be a log: none what is no tuple, else what its elements are -/
def ThingAt (K : PySem.W.Frag) (H : Hp) (v : V) : Option (List (Option Int)) → Prop
  | some os => ∃ (p : Addr) (xs : List V), v = .ref p ∧ H p = some (.tup xs) ∧ xs.length = os.length ∧ ∀ (i : Nat) (x : V) (o : Option Int), xs[i]? = some x → os[i]? = some o → KindV K H x o
  | none => ∃ T, T ∈ ["int", "bool", "str", "NoneType", "list", "dict"] ∧ TyX K H v (.type T)
theorem ThingAt.mono {K : PySem.W.Frag} {H H' : Hp} {v : V} {t : Option (List (Option Int))} (h : ThingAt K H v t) (s : Same H H') : ThingAt K H' v t := by
  cases t with
  | none => obtain ⟨T, h1, h2⟩ := h; exact ⟨T, h1, TyX.mono h2 s⟩
  | some os => obtain ⟨p, xs, h1, h2, h3, h4⟩ := h; exact ⟨p, xs, h1, s _ _ h2, h3, fun i x o a b => (h4 i x o a b).mono s⟩
end Ts
namespace Ts
open PySem PySem.Spec PyProof.Rows L2 L2H LamX
/-! ## a block whose first statement always leaves -/
theorem pss_stop {X : Cx} {st : Stmt} {rest : List Stmt} {t : TS} (h1 : PS X st t) : PSs X (st :: rest) (fun D σ H => t { D with nx := fun _ _ => False } σ H) := by
  refine ⟨fun pins s σ H D I h => ?_⟩
  refine wpAny_execs_cons (thn (h1.run pins s σ H { D with nx := fun _ _ => False } I h) fun f s1 q => ?_)
  cases f with
  | next =>
    obtain ⟨σ', H', I', q⟩ := q
    exact q.elim
  | ret v => exact q
  | brk => exact q
  | cont => exact q
/-! ## what stays where draws are made and lambdas -/
/-- all but what stands at b and the tables of code stays -/
def Ext2 (b : Addr) (H H' : Hp) : Prop := ∀ a o, a ≠ b → (∀ ps, o ≠ .tbl ps) → H a = some o → H' a = some o
theorem Ext2.refl {b : Addr} {H : Hp} : Ext2 b H H := fun _ _ _ _ h => h
theorem Ext2.trans {b : Addr} {H H1 H2 : Hp} (x : Ext2 b H H1) (y : Ext2 b H1 H2) : Ext2 b H H2 := fun a o n t h => y a o n t (x a o n t h)
theorem Ext2.but {b : Addr} {H H' : Hp} (x : But b H H') : Ext2 b H H' := fun a o n _ h => x a o n h
theorem Ext2.same {b : Addr} {H H' : Hp} (x : Same H H') : Ext2 b H H' := fun a o _ _ h => x a o h
theorem Ext2.ext {b : Addr} {H H' : Hp} (x : ExtN H H') : Ext2 b H H' := fun a o _ t h => x a o h t
def isTbl : HO → Bool
  | .tbl _ => true
  | _ => false
theorem isTbl_no {o : HO} (h : isTbl o = false) : ∀ ps, o ≠ .tbl ps := fun ps z => by rw [z] at h; cases h
theorem isTbl_of {o : HO} (h : ∀ ps, o ≠ .tbl ps) : isTbl o = false := by
  cases o <;> first | rfl | exact absurd rfl (h _)
/-- the heap without what stands at b and without tables -/
def hid2 (b : Addr) (H : Hp) : Hp := fun a => if a = b then none else match H a with
  | some o => if isTbl o = true then none else some o
  | none => none
theorem hid2_some {b a : Addr} {H : Hp} {o : HO} (h : hid2 b H a = some o) : a ≠ b ∧ (∀ ps, o ≠ .tbl ps) ∧ H a = some o := by
  unfold hid2 at h
  split at h
  · cases h
  · split at h
    · rename_i n _ o' e
      split at h
      · cases h
      · rename_i c
        cases h
        exact ⟨n, isTbl_no (by simpa using c), e⟩
    · cases h
theorem hid2_of {b a : Addr} {H : Hp} {o : HO} (n : a ≠ b) (t : ∀ ps, o ≠ .tbl ps) (h : H a = some o) : hid2 b H a = some o := by
  unfold hid2
  rw [if_neg n, h]
  show (if isTbl o = true then none else some o) = some o
  rw [isTbl_of t]; rfl
theorem hid2_sub {b : Addr} {H : Hp} : Same (hid2 b H) H := fun a o h => (hid2_some h).2.2
theorem Ext2.hid {b : Addr} {H H' : Hp} (x : Ext2 b H H') : Same (hid2 b H) (hid2 b H') := fun a o h => by
  obtain ⟨n, t, e⟩ := hid2_some h
  exact hid2_of n t (x a o n t e)
theorem hid2_but {b : Addr} {H H' : Hp} (x : But b H H') : Same (hid2 b H) (hid2 b H') := (Ext2.but x).hid
theorem hid2_same {b : Addr} {H H' : Hp} (x : Same H H') : Same (hid2 b H) (hid2 b H') := (Ext2.same x).hid
theorem hid2_ext {b : Addr} {H H' : Hp} (x : ExtN H H') : Same (hid2 b H) (hid2 b H') := (Ext2.ext x).hid
theorem Bas.ext {b : Addr} {H H' : Hp} (h : Bas H b) (x : ExtN H H') : Bas H' b := by
  obtain ⟨u, v, w, e⟩ := h
  exact ⟨u, v, w, x _ _ e fun ps z => nomatch z⟩
theorem Bas.ne_tbl {b P : Addr} {H : Hp} {ps : Array Value} (h : Bas H b) (e : H P = some (.tbl ps)) : P ≠ b := fun z => by
  obtain ⟨u, v, w, e2⟩ := h
  rw [z, e2] at e; cases e
theorem tabs_but {T : List (Addr × Str)} {b : Addr} {H H' : Hp} (t : Tabs T H) (hB : Bas H b) (x : But b H H') : Tabs T H' := fun p hp => by
  obtain ⟨ps, h1, h2, h3⟩ := t p hp
  refine ⟨ps, x _ _ (hB.ne_tbl h1) h1, h2, fun pos cv hc => ?_⟩
  obtain ⟨c, e1, e2⟩ := h3 pos cv hc
  refine ⟨c, e1, x _ _ (fun z => ?_) e2⟩
  obtain ⟨u, v, w, e3⟩ := hB
  rw [z, e3] at e2
  unfold CodeO at e2
  cases e2
theorem tabs_lst {T : List (Addr × Str)} {a : Addr} {H H' : Hp} {xs : List V} (t : Tabs T H) (hB : H a = some (.lst xs)) (x : But a H H') : Tabs T H' := fun p hp => by
  obtain ⟨ps, h1, h2, h3⟩ := t p hp
  refine ⟨ps, x _ _ (fun z => by rw [z, hB] at h1; cases h1) h1, h2, fun pos cv hc => ?_⟩
  obtain ⟨c, e1, e2⟩ := h3 pos cv hc
  refine ⟨c, e1, x _ _ (fun z => ?_) e2⟩
  rw [z, hB] at e2
  unfold CodeO at e2
  cases e2
/-! ## values of any kind: what they are by their data -/
def kindD : PyData → Option Int
  | .int i => some i
  | _ => none
theorem SqT.ty {K : PySem.W.Frag} {H : Hp} {a : Addr} {xs : List V} (h : SqT K H a xs) : TyX K H (.ref a) (.type "tuple") := by
  rcases h with (h | ⟨o, h⟩) | ⟨o, its, n, h1, h2, _⟩
  · exact .base (.tup h)
  · exact .fTuple h
  · exact .kTuple h1 h2
theorem SqL.ty {K : PySem.W.Frag} {H : Hp} {a : Addr} {xs : List V} (h : SqL K H a xs) : TyX K H (.ref a) (.type "list") := by
  rcases h with (h | ⟨o, h⟩) | ⟨o, its, n, h1, h2, _⟩
  · exact .base (.lst h)
  · exact .base (.frz h)
  · exact .kList h1 h2
theorem dp_kind {K : PySem.W.Frag} {H : Hp} {v : V} {d : PyData} (h : Dp K H v d) : KindV K H v (kindD d) := by
  cases h with
  | non => exact ⟨"NoneType", by decide, .base .non⟩
  | bl b => exact ⟨"bool", by decide, .base (.bl b)⟩
  | int i => rfl
  | str x => exact ⟨"str", by decide, .base (.str x)⟩
  | lst h a => exact ⟨"list", by decide, SqL.ty h⟩
  | tup h a => exact ⟨"tuple", by decide, SqT.ty h⟩
/-- a thing: a tuple of data, or a value that is no tuple -/
def ThingP (K : PySem.W.Frag) (H : Hp) (v : V) : Option (List PyData) → Prop
  | some ds => ∃ (p : Addr) (xs : List V), v = .ref p ∧ H p = some (.tup xs) ∧ DpAll K H xs ds ∧ ds.length ≤ 3000 ∧ SeqAt.shaped (.tuple ds) = true
  | none => ∃ T, T ∈ ["int", "bool", "str", "NoneType", "list", "dict"] ∧ TyX K H v (.type T)
theorem ThingP.mono {K : PySem.W.Frag} {H H' : Hp} {v : V} {t : Option (List PyData)} (h : ThingP K H v t) (s : Same H H') : ThingP K H' v t := by
  cases t with
  | none => obtain ⟨T, h1, h2⟩ := h; exact ⟨T, h1, TyX.mono h2 s⟩
  | some os => obtain ⟨p, xs, h1, h2, h3, h4⟩ := h; exact ⟨p, xs, h1, s _ _ h2, h3.mono s, h4⟩
def kinds (t : Option (List PyData)) : Option (List (Option Int)) := t.map fun ds => ds.map kindD
theorem ThingP.at {K : PySem.W.Frag} {H : Hp} {v : V} {t : Option (List PyData)} (h : ThingP K H v t) : ThingAt K H v (kinds t) := by
  cases t with
  | none => exact h
  | some ds =>
    obtain ⟨p, xs, h1, h2, h3, h4⟩ := h
    refine ⟨p, xs, h1, h2, by rw [List.length_map]; exact h3.length, fun i x o e1 e2 => ?_⟩
    obtain ⟨d, hd, hv⟩ := h3.get e1
    rw [List.getElem?_map, hd] at e2
    cases Option.some.inj e2
    exact dp_kind hv
end Ts
namespace Ts
open PySem PySem.Spec PyProof.Rows L2
/-! ## a tuple turned about: t[::-1] -/
theorem tupOfK {X : Cx} {K : PySem.W.Frag} (h : X.K = K) : CallR X (.type "tuple") (fun xs H Q => ∃ p ys, xs = [.ref p] ∧ ((SqL K H p ys ∧ ∀ l, H l = none → Q (.ref l) (upd H l (.tup ys))) ∨ (SqT K H p ys ∧ Q (.ref p) H))) := by subst h; exact call_tuple_of
end Ts
namespace PySem
open Sem (wp)
namespace TsEnum
set_option maxHeartbeats 1000000 in
theorem enum_new1 {v : Value} {o : Obj} {H : Heap → Prop} (B : Begins v o H) :
    Meets (Builtin.«enumerate.__new__» ⟨[.type "enumerate", v], []⟩) (fun _ R s => H s.heap ∧
      R (.ok (.ret (.ref (s.heap.push o).objs.size))) { s with heap := (s.heap.push o).push { cls := .type "enumerate", data := .fields #[.none, .bool false, .ref s.heap.objs.size, rawInt 0, .none, .none] } }) :=
  .of_wp fun prog w A R s h => by
    obtain ⟨hp, g, d, tk, os⟩ := s; obtain ⟨h1, h⟩ := h
    have es := sub_enumerate
    have q1 : ∀ {A2 : Around} {E : Value → Shared → Prop} {Q : Value → Shared → Prop}, Q (.ref hp.objs.size) ⟨hp.push o, g, d, tk, os⟩ → wpAny (model prog w) A2 (pyIter v) Q E ⟨hp, g, d, tk, os⟩ := fun q => B.iter prog w _ _ ⟨hp, g, d, tk, os⟩ _ h1 q
    wp_walk using q1
    refine wpAny_stack_any fun st => wpAny_pure ?_
    split
    · rename_i c _ _ _ _ _
      cases (c == Value.type "enumerate")
      · (wp_walk using q1); exact ⟨_, rfl, h⟩
      · (wp_walk using q1); exact ⟨_, rfl, h⟩
    · (wp_walk using q1); exact ⟨_, rfl, h⟩
section
variable {prog : Program} {w : World} {A : Around} {E : Value → Shared → Prop} {s : Shared}
theorem enum_one {v : Value} {o : Obj} {H : Heap → Prop} {Q : Value → Shared → Prop} (B : Begins v o H) (h1 : H s.heap)
    (h : ∀ h2, IsEnum h2 (s.heap.objs.size + 1) s.heap.objs.size 0 .none → h2.get? s.heap.objs.size = some o → h2.objs.size = s.heap.objs.size + 2 → (∀ b o, s.heap.get? b = some o → h2.get? b = some o) → Q (.ref (s.heap.objs.size + 1)) { s with heap := h2 }) :
    wpAny (model prog w) A (call (.type "enumerate") [v]) Q E s := by
  refine callType_new F.called_enumerate (by decide) (F.typeCall_enumerate_1 _) (F.newCall_enumerate_1 _) (fun obj => F.args_object_init_2 obj _) F.entry_enumerate_new (enum_new1 B) ⟨h1, ?_⟩
  have hz : (s.heap.push o).objs.size = s.heap.objs.size + 1 := Heap.size_push ..
  show _ ∧ _
  rw [hz]
  have he : IsEnum ((s.heap.push o).push { cls := .type "enumerate", data := .fields #[.none, .bool false, .ref s.heap.objs.size, rawInt 0, .none, .none] }) (s.heap.objs.size + 1) s.heap.objs.size 0 .none := by
    have z := Heap.get?_push_size (s.heap.push o) (o := { cls := .type "enumerate", data := .fields #[.none, .bool false, .ref s.heap.objs.size, rawInt 0, .none, .none] }) rfl
    rw [hz] at z; exact z
  exact ⟨⟨_, he, rfl⟩, h _ he (Heap.get?_push_of_some _ (Heap.get?_push_size _ B.free)) (by rw [Heap.size_push, hz]) fun b o x => Heap.get?_push_of_some _ (Heap.get?_push_of_some _ x)⟩
end
end TsEnum
end PySem
namespace Ts
open PySem PySem.Spec PyProof.Rows L2
/-- the tuple at a, each item in a new pair with its number, from c on -/
def IteT (K : PySem.W.Frag) (a : Addr) (c : Int) : It :=
  ⟨fun i H => ∃ (xs : List V) (x : V), SqT K H a xs ∧ xs[i]? = some x, fun i H v H2 => ∃ T x, v = .ref T ∧ H T = none ∧ H2 = upd H T (.tup [.int (c + (i : Nat)), x]) ∧ ∀ xs, SqT K H a xs → xs[i]? = some x, fun i H => ∃ xs : List V, SqT K H a xs ∧ xs.length ≤ i⟩
theorem turn_enumT {P : Program} {w : World} {K : PySem.W.Frag} {elts : List Expr} {kk : Nat} {tpos : Pos} (a e it : Addr) (c : Int) :
    Turn P w K (.Tuple elts kk tpos) (IteT K a c) [e, it] e (fun i h => (∃ old, IsEnum h e it (c + ((i : Nat) : Int)) old) ∧ h.IsTupleIter it a i ∧ e ≠ it) where
  mem := by simp
  obj := fun i h st b hb => by
    obtain ⟨⟨old, he⟩, ⟨o, ho, hc, hd⟩, _⟩ := st
    have z : b = e ∨ b = it := by simpa using hb
    rcases z with z | z
    · rw [z]; exact ⟨_, he, fun v q => nomatch q⟩
    · rw [z]; exact ⟨o, ho, fun v q => by rw [hd] at q; cases q⟩
  keep := fun i h h2 st k => let ⟨⟨old, he⟩, hi, hne⟩ := st; ⟨⟨old, k e (by simp) _ he⟩, hi.at fun o q => k it (by simp) o q, hne⟩
  item := by
    intro X hP hw hK hc i pins s σ H E I hf st hg
    subst hP hw hK
    obtain ⟨⟨old, he⟩, hit, hne⟩ := st
    obtain ⟨xs, x, hq, hx⟩ := hg
    obtain ⟨its, rv, p, hz⟩ := I.tuple hq
    have p2 : s.heap.IsTuple a its.toArray := p
    obtain ⟨u, hu, ru⟩ := rv.get hx
    have hel : e < s.heap.objs.size := Heap.lt_size he
    have hil : it < s.heap.objs.size := by obtain ⟨_, q, _⟩ := hit; exact Heap.lt_size q
    have nae : a ≠ it := fun z => by
      obtain ⟨o1, e1, c1, _⟩ := hit
      obtain ⟨o2, e2, c2, _⟩ := p2
      rw [z, e1] at e2
      cases e2
      rw [c1] at c2
      exact absurd (Value.type.inj c2) (by decide)
    have hae : e ∉ [it, a] := fun z => by
      have z : e = it ∨ e = a := by simpa using z
      rcases z with z | z
      · exact hne z
      · obtain ⟨o2, e2, c2, _⟩ := p2
        rw [← z, he] at e2
        cases e2
        exact absurd (Value.type.inj c2) (by decide)
    have hlt : i < its.toArray.size := by
      have := (List.getElem?_eq_some_iff.mp hu).1
      simpa using this
    refine wpAny_pyNext_enum_itemC (Draws.tuple (prog := X.prog) (w := X.w) (A := X.A.in1) (show X.A.in1.handled = none from I.ok.hd hc) it a nae its.toArray) he ⟨hit, p2⟩ hlt hne hae fun y h2 tk hy ho st2 hT hsz hk => ?_
    have ey : y = u := by
      have hy2 : its.toArray[i]? = some y := hy
      rw [List.getElem?_toArray, hu] at hy2
      exact (Option.some.inj hy2).symm
    subst ey
    refine ⟨_, rfl, wpAny_letOwnedTupleGo_enum (s := { s with heap := h2, toks := tk + 1 }) ho fun h3 he3 sb => ?_⟩
    have hT2 : h3.get? s.heap.objs.size = some { cls := .type "tuple", data := .seq #[.int (c + (i : Int)) tk, y] } := (sb.2 _ (Nat.ne_of_gt hel)).trans hT
    have new : ObjOk X.prog X.w (upd H s.heap.objs.size (.tup [.int (c + (i : Nat)), x])) h3 s.heap.objs.size (.tup [.int (c + (i : Nat)), x]) :=
      ⟨by show 2 ≤ sizeLine; decide, [.int (c + (i : Int)) tk, y], .cons ⟨_, rfl⟩ (.cons ru .nil), ⟨_, hT2, rfl, _, rfl⟩⟩
    have I1 : Inv X pins σ (upd H s.heap.objs.size (.tup [.int (c + (i : Nat)), x])) { s with heap := h3, toks := tk + 1 } :=
      I.turnedNew (ch := [e, it]) (fun b ob hb q => (sb.2 b (fun z => hb (by simp [z]))).trans (hk b ob (fun z => hb (by simp [z])) (fun z => hb (by simp [z])) q)) hf (Nat.le_refl _) new
    refine ⟨.ref s.heap.objs.size, _, I1, rfl, ⟨_, x, rfl, I.hok.fresh (Nat.le_refl _), rfl, fun ys hy => by rw [I.tuple_inj hy hq]; exact hx⟩, ⟨⟨y, ?_⟩, st2.1.at fun o q => (sb.2 it (Ne.symm hne)).trans q, hne⟩, fun b hb => ?_⟩
    · have e1 : c + ((i + 1 : Nat) : Int) = c + (i : Int) + 1 := by omega
      rw [e1]; exact he3
    · have lt : b < s.heap.objs.size := by
        have z : b = e ∨ b = it := by simpa using hb
        rcases z with z | z
        · rw [z]; exact hel
        · rw [z]; exact hil
      rw [upd_ne (Nat.ne_of_lt lt)]
      exact (hf b hb).1
  done := by
    intro X hP hw hK hc i pins s σ H E I hf st hg
    subst hP hw hK
    obtain ⟨⟨old, he⟩, hit, hne⟩ := st
    obtain ⟨xs, hq, hx⟩ := hg
    obtain ⟨its, rv, p, hz⟩ := I.tuple hq
    have p2 : s.heap.IsTuple a its.toArray := p
    obtain ⟨f0, f1, f2, f3, f4, f5⟩ := hf it (by simp)
    have hl := rv.length
    have hT : s.TypeIs (.ref e) "enumerate" := ⟨_, he, rfl⟩
    unfold pyNext
    refine wpAny_bind (wpAny_attempt (wpAny_callSpecial?_slot (name := Str.ofString "__next__") hT F.slot_enumerate_next (wpAny_call_entry F.slot_enumerate_next hT F.entry_enumerate_next ?_ (F.args_enumerate_next_1 _))))
    show wpAny _ _ (field (.ref e) 2 >>= _) _ _ _
    refine wpAny_bind (wpAny_field he rfl (x := .ref it) rfl ?_)
    refine wpAny_bind (wpAny_nextOf_tuple_end (I.ok.hd hc) hit p2 (by simp; omega) fun h2 x eb hx2 => ?_)
    obtain ⟨o, ho, hcl⟩ := hx2
    refine wpAny_bind (wpAny_isInstance (T := "StopIteration") (b := true) ⟨o, ho, hcl⟩ isSubtype_stop ?_)
    exact wpAny_pure ⟨rfl, I.turned (t' := s.toks) (fun b o hb q => eb b o hb q) f0 f1 f3 f4 f5⟩
  self := fun A i s Q E st h => let ⟨⟨_, he⟩, _⟩ := st; wpAny_pyIter_enum he h
def iEnumT (K : PySem.W.Frag) (ta : TA) : TI := fun σ H R => ta σ H fun vs H1 => ∃ a xs, vs = [.ref a] ∧ SqT K H1 a xs ∧ R (IteT K a 0) H1
section
variable {X : Cx}
theorem pi_enumT {e : Expr} {ta : TA} {p pos tpos : Pos} {elts : List Expr} {kk : Nat} (hg : Gl X "enumerate") (hm : X.mg "enumerate" = none) (ha : PA X [e] ta) (hs : starEach [e] X.env = [(false, eval e X.env)] := by rfl) :
    PI X (.Tuple elts kk tpos) (.Call (.Name "enumerate" p) [e] [] pos) (iEnumT X.K ta) := by
  refine ⟨fun pins s σ H R I h => ?_⟩
  refine Call_ (ld_blt I hg hm boot_enumerate (PyProof.Rows.callWith_type1 (thn (ha.run pos pins s σ H _ I h) fun us s1 ⟨vs, H1, I1, r1, q1⟩ => ?_) hs rfl))
  obtain ⟨a, xs, ex, hq, q⟩ := q1
  subst ex
  rw [Vals.ref1 r1]
  obtain ⟨its, rv, p2, hz⟩ := I1.tuple hq
  refine TsEnum.enum_one (begins_tuple a its.toArray) p2 fun h2 he hit hsz hk => wpAny_pyIter_enum he ?_
  have I2 : Inv X pins σ H1 { s1 with heap := h2 } := I1.kept (t' := s1.toks) hk
  refine ⟨s1.heap.objs.size + 1, [s1.heap.objs.size + 1, s1.heap.objs.size], _, _, H1, rfl, I2, turn_enumT a (s1.heap.objs.size + 1) s1.heap.objs.size 0, ⟨⟨.none, by simpa using he⟩, ⟨_, hit, rfl, rfl⟩, Nat.succ_ne_self _⟩, fun b hb => ?_, q⟩
  have z : b = s1.heap.objs.size + 1 ∨ b = s1.heap.objs.size := by simpa using hb
  have le : s1.heap.objs.size ≤ b := by
    rcases z with z | z
    · rw [z]; exact Nat.le_add_right _ _
    · rw [z]; exact Nat.le_refl _
  exact I1.fpOk le (I1.hok.fresh le)
end
/-- a tuple walked with numbers -/
theorem walk_enumT {K : PySem.W.Frag} {a : Addr} {xs : List V} {c : Int} {g : TG} {tb : TS} {D : Ends} {σ : L2.St} {H : Hp} (Pv : Nat → L2.St → Hp → Prop) (h0 : Pv 0 σ H) (hl : ∀ i σ H, i ≤ xs.length → Pv i σ H → SqT K H a xs)
    (hs : ∀ i x T σ H, xs[i]? = some x → Pv i σ H → H T = none → g (.ref T) σ (upd H T (.tup [.int (c + (i : Nat)), x])) fun σ2 H2 => tb { D with nx := Pv (i + 1), ct := Pv (i + 1), bk := D.nx } σ2 H2) (hd : ∀ σ H, Pv xs.length σ H → D.nx σ H) :
    ∃ W : Nat → Nat → L2.St → Hp → Prop, (∃ m, W 0 m σ H) ∧ ∀ i m σ H, W i m σ H → ((IteT K a c).stop i H ∧ D.nx σ H) ∨ ((IteT K a c).go i H ∧ ∃ N : L2.St → Hp → Prop, (∀ σ' H', N σ' H' → ∃ m', m' < m ∧ W (i + 1) m' σ' H') ∧ ∀ x H', (IteT K a c).yld i H x H' → g x σ H' fun σ2 H2 => tb { D with nx := N, ct := N, bk := D.nx } σ2 H2) := by
  refine ⟨fun i m σ H => m = xs.length - i ∧ i ≤ xs.length ∧ Pv i σ H, ⟨_, rfl, Nat.zero_le _, h0⟩, ?_⟩
  rintro i m σ H ⟨rfl, le, z⟩
  have q := hl i σ H le z
  rcases Nat.lt_or_eq_of_le le with lt | rfl
  · have e : xs[i]? = some xs[i] := by simp [lt]
    refine .inr ⟨⟨xs, xs[i], q, e⟩, Pv (i + 1), fun σ2 H2 z2 => ⟨_, by omega, rfl, lt, z2⟩, ?_⟩
    rintro v _ ⟨T, x, rfl, hT, rfl, hx⟩
    exact hs i x T σ H (hx xs q) z hT
  · exact .inl ⟨⟨xs, q, Nat.le_refl _⟩, hd σ H z⟩
end Ts
namespace Ts
open PySem PySem.Spec PyProof.Rows L2
section
variable {prog : Program} {w : World} {A : Around} {E : Value → Shared → Prop} {s : Shared}
theorem getItem_whole {t sl : Addr} {items : Array Value} {vl vu : Value} {lo hi : Option Int} {Q : Value → Shared → Prop} (ht : IsTup s.heap t items) (hs : s.heap.IsSliceOf sl vl vu .none) (pl : IsPart vl lo) (pu : IsPart vu hi)
    (hw : HT.sIx items.size 0 lo = 0 ∧ HT.sIx items.size items.size hi = items.size) (h : Q (.ref t) s) : wpAny (model prog w) A (getItem (.ref t) (.ref sl)) Q E s := by
  obtain ⟨os, hos, hcs, hds⟩ := id hs
  have hTs : s.TypeIs (.ref sl) "slice" := ⟨os, hos, hcs⟩
  unfold getItem
  try with_reducible refine wpAny_holding ?_
  first | refine wpAny_bind (wpAny_pure ?_) | skip
  refine wpAny_bind (wpAny_sequenceKey ht.typeIs (by decide) ?_)
  refine wpAny_bind (wpAny_callSpecial?_slot (name := Str.ofString "__getitem__") ht.typeIs PyProof.Rows.slot_tuple_getitem (wpAny_call_entry PyProof.Rows.slot_tuple_getitem ht.typeIs entry_tuple_getitem ?_ (args_tuple_getitem _ _)))
  show wpAny _ _ (Builtin.Tuple.tupleItemsOf (.ref t) >>= _) _ _ s
  refine wpAny_bind (tupleItemsOf_ ht (wpAny_bind (wpAny_typeOf hTs ?_)))
  rw [if_pos (by decide)]
  refine wpAny_bind (HT.sliceApplied_gen hs pl pu ?_)
  rw [hw.1, hw.2, Nat.sub_zero]
  show wpAny _ _ (if (((0 : Nat) : Int) == 0 && (1 : Int) == 1 && items.size == items.size) = true then _ else _) _ _ s
  rw [if_pos (by simp)]
  refine wpAny_bind ?_
  unfold Builtin.Tuple.tupleIsExact
  refine wpAny_bind (wpAny_typeOf ht.typeIs (wpAny_pure ?_))
  show wpAny _ _ (if (Value.type "tuple" == Value.type "tuple") = true then _ else _) _ _ s
  rw [if_pos (by decide)]
  exact wpAny_bind (wpAny_rule (wpAny_pure ⟨_, rfl, wpAny_pure h⟩))
end
/-- t[lo:hi], also the whole of it -/
def rSlU (K : PySem.W.Frag) : V → Option Int → Option Int → Hp → VK → Prop := fun x lo hi H Q => ∃ a xs, x = .ref a ∧ SqT K H a xs ∧ ∀ p H', Same H H' → (p = a ∨ H p = none) → SqT K H' p (cutV xs lo hi) → (H a = some (.tup xs) → H' p = some (.tup (cutV xs lo hi))) → Q (.ref p) H'
theorem cut_all {xs : List V} {lo hi : Option Int} (h : HT.sIx xs.length 0 lo = 0 ∧ HT.sIx xs.length xs.length hi = xs.length) : cutV xs lo hi = xs := by
  unfold cutV
  rw [h.1, h.2, List.drop_zero, Nat.sub_zero, List.take_length]
theorem sl_tupU {X : Cx} : SlR X (rSlU X.K) := by
  intro pins s σ H x v vl vu lo hi sl Q I rx hs pl pu h
  obtain ⟨a, xs, rfl, hx, q⟩ := h
  by_cases hw : HT.sIx xs.length 0 lo = 0 ∧ HT.sIx xs.length xs.length hi = xs.length
  · cases rx
    obtain ⟨its, r, ht, hz⟩ := I.tuple hx
    have hlen : its.toArray.size = xs.length := by rw [List.size_toArray]; exact r.length.symm
    refine ⟨"tuple", _, PyProof.Rows.slot_tuple_getitem.lookup, ht.typeIs, ?_⟩
    refine getItem_whole ht hs pl pu (by rw [hlen]; exact hw) ⟨.ref a, H, I, rfl, q a H (fun _ _ z => z) (.inl rfl) (by rw [cut_all hw]; exact hx) (fun z => by rw [cut_all hw]; exact z)⟩
  · exact sl_tup pins s σ H _ v vl vu lo hi sl Q I rx hs pl pu ⟨a, xs, rfl, hx, hw, fun p hp => q p _ (same_new hp) (.inr hp) (SqT.of upd_same) (fun _ => upd_same)⟩
end Ts
namespace Ts
open PySem PySem.Spec PyProof.Rows L2
/-! ## logs -/
def IsLog (ls : List Nat) : Prop := ∀ x ∈ ls, x ≤ 1
abbrev logV (ls : List Nat) : List V := ls.map fun x : Nat => V.int ((x : Nat) : Int)
/-- the bounds as they are after t ticks: a pair of tops and bottoms -/
structure Edge where
  a : Nat
  b : Nat
  c : Nat
  d : Nat
def Edge.step (E : Edge) (h t : Nat) : Edge :=
  ⟨if E.a * t < (h - 1) * E.b then h - 1 else E.a, if E.a * t < (h - 1) * E.b then t else E.b, if (h + 1) * E.d < E.c * t then h + 1 else E.c, if (h + 1) * E.d < E.c * t then t else E.d⟩
/-! ## what is asked -/
abbrev pairI (a b : Int) : PyData := .tuple [.int a, .int b]
def Edge.fits (E : Edge) : Prop := E.a * E.d < E.c * E.b
instance (E : Edge) : Decidable E.fits := by unfold Edge.fits; exact inferInstance
def Edge.has (E : Edge) (e p : Nat) : Prop := E.a * p < e * E.b ∧ e * E.d < E.c * p
instance (E : Edge) (e p : Nat) : Decidable (E.has e p) := by unfold Edge.has; exact inferInstance
/-! ## data of tuples alone -/
inductive TupD : PyData → Prop
  | int (i : Int) : TupD (.int i)
  | non : TupD .none
  | tup {ds : List PyData} (h : ∀ d ∈ ds, TupD d) : TupD (.tuple ds)
theorem DpAll.imp {K : PySem.W.Frag} {H H' : Hp} : ∀ {vs : List V} {ds : List PyData}, DpAll K H vs ds → (∀ d ∈ ds, ∀ v, Dp K H v d → Dp K H' v d) → DpAll K H' vs ds
  | _, _, .nil, _ => .nil
  | _, _, .cons h t, g => .cons (g _ List.mem_cons_self _ h) (DpAll.imp t fun d hd => g d (List.mem_cons_of_mem _ hd))
theorem dp_hideT {K : PySem.W.Frag} {H : Hp} {b : Addr} {l : List V} (hb : H b = some (.lst l)) {d : PyData} (t : TupD d) : ∀ v, Dp K H v d → Dp K (hid b H) v d := by
  induction t with
  | int i => intro v h; cases h.int_eq; exact .int _
  | non => intro v h; cases h; exact .non
  | tup hs ih =>
    intro v h
    obtain ⟨p, xs, rfl, hS, hA⟩ := h.tuple
    exact .tup (seqT_hide hb hS) (DpAll.imp hA ih)
theorem fine_pair {a b : Nat} (h1 : a ≤ 1000000) (h2 : b ≤ 1000000) : Fine 300 1 (pairI (a : Int) (b : Int)) := by
  have k : (1000000 : Int) < 10 ^ 40 := by decide
  generalize ((10 : Int) ^ 40) = c at k
  exact ((FineAll.cons (fine_int (e := 0) (i := (a : Int)) (by omega) (by omega)) (FineAll.cons (fine_int (e := 0) (i := (b : Int)) (by omega) (by omega)) (FineAll.nil (w := 0)))).tup).mono (by decide) (by decide)
/-- a list of logs -/
def LogsAt (H : Hp) (xs : List V) : Prop := ∀ x ∈ xs, ∃ (a : Addr) (ls : List Nat), x = .ref a ∧ H a = some (.tup (logV ls)) ∧ IsLog ls ∧ 1 ≤ ls.length ∧ ls.length ≤ 200
theorem LogsAt.set {pl : Addr} {H : Hp} {xs us : List V} {u : HO} (h : LogsAt H xs) (B : H pl = some (.lst us)) : LogsAt (upd H pl u) xs := fun x hx => by
  obtain ⟨a, ls, rfl, e, r⟩ := h x hx
  refine ⟨a, ls, rfl, ?_, r⟩
  rw [upd_ne (fun z => by rw [z, B] at e; cases e)]; exact e
theorem LogsAt.snoc {H : Hp} {xs : List V} {a : Addr} {ls : List Nat} (h : LogsAt H xs) (e : H a = some (.tup (logV ls))) (hl : IsLog ls) (l1 : 1 ≤ ls.length) (l2 : ls.length ≤ 200) : LogsAt H (xs ++ [.ref a]) := fun x hx => by
  rcases List.mem_append.mp hx with z | z
  · exact h x z
  · rw [List.mem_singleton.mp z]; exact ⟨a, ls, rfl, e, hl, l1, l2⟩
end Ts
namespace Ts
open PySem PySem.Spec PyProof.Rows L2
/-! ## the simplest share between two bounds -/
def topE (E : Edge) (p : Nat) : Nat := E.a * p / E.b + 1
def okAt (E : Edge) (p : Nat) : Prop := topE E p ≤ p ∧ topE E p * E.d < E.c * p
instance (E : Edge) (p : Nat) : Decidable (okAt E p) := by unfold okAt; exact inferInstance
structure IsFirst (E : Edge) (p : Nat) : Prop where
  pos : 1 ≤ p
  ok : okAt E p
  least : ∀ q, 1 ≤ q → q < p → ¬ okAt E q
theorem top_has {E : Edge} (hb : 0 < E.b) (p : Nat) : E.a * p < topE E p * E.b := by
  unfold topE
  rw [Nat.mul_comm _ E.b]
  exact Nat.lt_mul_div_succ _ hb
theorem top_le_of {E : Edge} (hb : 0 < E.b) {e p : Nat} (h : E.a * p < e * E.b) : topE E p ≤ e := (Nat.div_lt_iff_lt_mul hb).mpr h
theorem ok_of {E : Edge} (hb : 0 < E.b) {e p : Nat} (h : E.has e p) (h3 : e ≤ p) : okAt E p := by
  have t := top_le_of hb h.1
  exact ⟨Nat.le_trans t h3, Nat.lt_of_le_of_lt (Nat.mul_le_mul_right _ t) h.2⟩
theorem IsFirst.has {E : Edge} {p : Nat} (hb : 0 < E.b) (h : IsFirst E p) : E.has (topE E p) p := ⟨top_has hb p, h.ok.2⟩
theorem IsFirst.gcd {E : Edge} {p : Nat} (hb : 0 < E.b) (h : IsFirst E p) : Nat.gcd (topE E p) p = 1 := by
  have g0 : 0 < Nat.gcd (topE E p) p := Nat.gcd_pos_of_pos_right _ h.pos
  rcases Nat.lt_or_eq_of_le (show 1 ≤ Nat.gcd (topE E p) p from g0) with z | z
  · exfalso
    have hh := h.has hb
    generalize hg : Nat.gcd (topE E p) p = g at g0 z
    have d1 : g ∣ topE E p := hg ▸ Nat.gcd_dvd_left _ _
    have d2 : g ∣ p := hg ▸ Nat.gcd_dvd_right _ _
    obtain ⟨x, hx⟩ := d1
    obtain ⟨y, hy⟩ := d2
    have y1 : 1 ≤ y := by
      rcases Nat.eq_zero_or_pos y with w | w
      · rw [w, Nat.mul_zero] at hy; have := h.pos; omega
      · exact w
    have yp : y < p := by
      rw [hy]
      calc y = 1 * y := (Nat.one_mul y).symm
        _ < g * y := Nat.mul_lt_mul_of_pos_right z y1
    refine h.least y y1 yp (ok_of hb (e := x) ⟨?_, ?_⟩ ?_)
    · have k := hh.1
      have e1 : E.a * p = E.a * y * g := by rw [hy, Nat.mul_comm g y, Nat.mul_assoc]
      have e2 : topE E p * E.b = x * E.b * g := by rw [hx, Nat.mul_comm g x, Nat.mul_right_comm]
      rw [e1, e2] at k
      exact Nat.lt_of_mul_lt_mul_right k
    · have k := hh.2
      have e1 : E.c * p = E.c * y * g := by rw [hy, Nat.mul_comm g y, Nat.mul_assoc]
      have e2 : topE E p * E.d = x * E.d * g := by rw [hx, Nat.mul_comm g x, Nat.mul_right_comm]
      rw [e1, e2] at k
      exact Nat.lt_of_mul_lt_mul_right k
    · have k := h.ok.1
      rw [hx] at k
      have k2 : g * x ≤ g * y := by rw [← hy]; exact k
      exact Nat.le_of_mul_le_mul_left k2 g0
  · exact z.symm
end Ts
namespace Ts
open PySem PySem.Spec PyProof.Rows L2
/-! ## pairs of a number and something else sorted: no two of one number -/
section
variable {prog : Program} {w : World} {A : Around} {E : Value → Shared → Prop} {s : Shared}
def KeyRef (h : Heap) (v : Value) (k : Int) (r : Addr) : Prop := ∃ a xs t, v = Value.ref a ∧ IsTup h a xs ∧ xs.toList = [.int k t, .ref r]
theorem KeyRef.keeps {h h' : Heap} {v : Value} {k : Int} {r : Addr} (g : KeyRef h v k r) (kk : ∀ (b : Addr) (o : Obj), h.get? b = some o → o.cls = .type "tuple" → h'.get? b = some o) : KeyRef h' v k r := by
  obtain ⟨a, xs, t, rfl, ⟨o, ho, hc, n, hd⟩, e⟩ := g
  exact ⟨a, xs, t, rfl, ⟨o, kk a o ho hc, hc, n, hd⟩, e⟩
end
end Ts
namespace Ts
open PySem PySem.Spec PyProof.Rows L2 L2H LamX
/-! ## what stays but for tables -/
theorem TyX.ext {K : PySem.W.Frag} {H H' : Hp} {x : V} {t : Value} (h : TyX K H x t) (s : ExtN H H') : TyX K H' x t := by
  cases h with
  | base b => exact .base (match b with
    | .non => .non
    | .bl x => .bl x
    | .int i => .int i
    | .str x => .str x
    | .flt x => .flt x
    | .lst e => .lst (s _ _ e fun _ z => by cases z)
    | .frz e => .frz (s _ _ e fun _ z => by cases z)
    | .tup e => .tup (s _ _ e fun _ z => by cases z)
    | .dK e => .dK (s _ _ e fun _ z => by cases z)
    | .dT e => .dT (s _ _ e fun _ z => by cases z)
    | .ins e a b c d f => .ins (s _ _ e fun _ z => by cases z) a b c d f)
  | byt b => exact .byt b
  | set e => exact .set (s _ _ e fun _ z => by cases z)
  | kList e c => exact .kList e c
  | kTuple e c => exact .kTuple e c
  | kDict e c => exact .kDict e c
  | fTuple e => exact .fTuple (s _ _ e fun _ z => by cases z)
  | fDict e => exact .fDict (s _ _ e fun _ z => by cases z)
theorem KindV.ext {K : PySem.W.Frag} {H H' : Hp} {v : V} {o : Option Int} (h : KindV K H v o) (s : ExtN H H') : KindV K H' v o := by
  cases o with
  | some i => exact h
  | none => obtain ⟨T, h1, h2⟩ := h; exact ⟨T, h1, TyX.ext h2 s⟩
theorem ThingAt.ext {K : PySem.W.Frag} {H H' : Hp} {v : V} {t : Option (List (Option Int))} (h : ThingAt K H v t) (s : ExtN H H') : ThingAt K H' v t := by
  cases t with
  | none => obtain ⟨T, h1, h2⟩ := h; exact ⟨T, h1, TyX.ext h2 s⟩
  | some os => obtain ⟨p, xs, h1, h2, h3, h4⟩ := h; exact ⟨p, xs, h1, s _ _ h2 (fun _ z => by cases z), h3, fun i x o a b => (h4 i x o a b).ext s⟩
theorem sqt_ext {K : PySem.W.Frag} {H H' : Hp} {a : Addr} {xs : List V} (h : SqT K H a xs) (s : ExtN H H') : SqT K H' a xs := by
  rcases h with (h | ⟨o, h⟩) | h
  · exact .inl (.inl (s _ _ h fun _ z => by cases z))
  · exact .inl (.inr ⟨o, s _ _ h fun _ z => by cases z⟩)
  · exact .inr h
theorem sql_ext {K : PySem.W.Frag} {H H' : Hp} {a : Addr} {xs : List V} (h : SqL K H a xs) (s : ExtN H H') : SqL K H' a xs := by
  rcases h with (h | ⟨o, h⟩) | h
  · exact .inl (.inl (s _ _ h fun _ z => by cases z))
  · exact .inl (.inr ⟨o, s _ _ h fun _ z => by cases z⟩)
  · exact .inr h
mutual
theorem dp_ext {K : PySem.W.Frag} {H H' : Hp} (s : ExtN H H') : ∀ (d : PyData) (v : V), Dp K H v d → Dp K H' v d
  | _, _, .non => .non
  | _, _, .bl b => .bl b
  | _, _, .int i => .int i
  | _, _, .str x => .str x
  | .list ds, _, .lst h a => .lst (sql_ext h s) (dpAll_ext s ds _ a)
  | .tuple ds, _, .tup h a => .tup (sqt_ext h s) (dpAll_ext s ds _ a)
theorem dpAll_ext {K : PySem.W.Frag} {H H' : Hp} (s : ExtN H H') : ∀ (ds : List PyData) (vs : List V), DpAll K H vs ds → DpAll K H' vs ds
  | [], _, .nil => .nil
  | d :: ds, _, .cons h t => .cons (dp_ext s d _ h) (dpAll_ext s ds _ t)
end
theorem ShownV.ext {K : PySem.W.Frag} {H H' : Hp} {v : V} {t : Str} (h : ShownV K H v t) (s : ExtN H H') : ShownV K H' v t := by
  obtain ⟨d, h1, h2⟩ := h
  exact ⟨d, dp_ext s _ _ h1, h2⟩
/-! ## tuples joined, no frozen ones -/
/-! ## the functions of logs, given anything -/
/-! ## what is told -/
/-- the text that is due for the value of an error -/
def shV : V → Str
  | .int i => (PyData.int i).shown
  | _ => PyData.none.shown
/-- what is heard: as it is due -/
def Fits (due : Option (Str × Str)) (w : Str × Str) : Prop := match due with
  | none => w.1 = "back"
  | some d => w = d
end Ts
namespace Ts
open PySem PySem.Spec PyProof.Rows L2 L2H LamX
/-- a list of two texts -/
def PairAt (H : Hp) (v : V) (w : Str × Str) : Prop := ∃ p, v = .ref p ∧ H p = some (.lst [.str w.1, .str w.2])
inductive Pairs (H : Hp) : List V → List (Str × Str) → Prop
  | nil : Pairs H [] []
  | cons {x : V} {w : Str × Str} {xs : List V} {ws : List (Str × Str)} : PairAt H x w → Pairs H xs ws → Pairs H (x :: xs) (w :: ws)
end Ts
namespace Ts
open PySem PySem.Spec PyProof.Rows L2 L2H LamX
abbrev pairW (w : Str × Str) : PyData := .list [.str w.1, .str w.2]
theorem PairAt.mono {H H' : Hp} {v : V} {w : Str × Str} (h : PairAt H v w) (s : Same H H') : PairAt H' v w := by
  obtain ⟨p, h1, h2⟩ := h
  exact ⟨p, h1, s _ _ h2⟩
theorem Pairs.mono {H H' : Hp} (s : Same H H') : ∀ {xs : List V} {ws : List (Str × Str)}, Pairs H xs ws → Pairs H' xs ws
  | _, _, .nil => .nil
  | _, _, .cons h t => .cons (h.mono s) (t.mono s)
theorem Pairs.dp {K : PySem.W.Frag} {H : Hp} : ∀ {xs : List V} {ws : List (Str × Str)}, Pairs H xs ws → DpAll K H xs (ws.map pairW)
  | _, _, .nil => .nil
  | _, _, .cons ⟨_, h1, h2⟩ t => .cons (by rw [h1]; exact .lst (SqL.of h2) (.cons (.str _) (.cons (.str _) .nil))) t.dp
theorem Pairs.length {H : Hp} : ∀ {xs : List V} {ws : List (Str × Str)}, Pairs H xs ws → xs.length = ws.length
  | _, _, .nil => rfl
  | _, _, .cons _ t => by rw [List.length_cons, List.length_cons, t.length]
theorem Pairs.get {H : Hp} : ∀ {xs : List V} {ws : List (Str × Str)} {i : Nat} {x : V}, Pairs H xs ws → xs[i]? = some x → ∃ w, w ∈ ws ∧ PairAt H x w
  | _, _, 0, _, .cons h _, e => by cases e; exact ⟨_, List.mem_cons_self, h⟩
  | _, _, i + 1, _, .cons _ t, e => by
    obtain ⟨w, h1, h2⟩ := t.get (i := i) e
    exact ⟨w, List.mem_cons_of_mem _ h1, h2⟩
end Ts
namespace Ts
open PySem PySem.Spec PyProof.Rows L2 L2H LamX
theorem lay_all : ∀ {ds : List PyData}, (∀ d ∈ ds, d.canLay0 = true ∧ d.depth ≤ 60) → PyData.canLayAll0 ds = true ∧ PyData.depthAll ds ≤ 60
  | [], _ => ⟨rfl, Nat.zero_le _⟩
  | d :: ds, h => by
    obtain ⟨h1, h2⟩ := h d List.mem_cons_self
    obtain ⟨g1, g2⟩ := lay_all (ds := ds) fun x hx => h x (List.mem_cons_of_mem _ hx)
    exact ⟨by show (d.canLay0 && PyData.canLayAll0 ds) = true; rw [h1, g1]; rfl, by show max d.depth (PyData.depthAll ds) ≤ 60; omega⟩
theorem shaped_tup {ds : List PyData} (h : ∀ d ∈ ds, d.canLay0 = true ∧ d.depth ≤ 60) : SeqAt.shaped (.tuple ds) = true := by
  obtain ⟨h1, h2⟩ := lay_all h
  unfold SeqAt.shaped
  rw [show PyData.canLay0 (.tuple ds) = true from h1, decide_eq_true (show PyData.depth (.tuple ds) ≤ 64 by show PyData.depthAll ds + 1 ≤ 64; omega)]; rfl
theorem ThingP.of {K : PySem.W.Frag} {H : Hp} {p : Addr} {xs : List V} {ds : List PyData} (h : H p = some (.tup xs)) (hd : DpAll K H xs ds) (hl : ds.length ≤ 3000) (ok : ∀ d ∈ ds, d.canLay0 = true ∧ d.depth ≤ 60) : ThingP K H (.ref p) (some ds) := ⟨p, xs, rfl, h, hd, hl, shaped_tup ok⟩
end Ts
namespace Ts
open PySem PySem.Spec PyProof.Rows L2 L2H LamX
/-- of a heap only what is said of it counts from now on -/
theorem at_heap {G : Hp → Prop} {Hn : Hp} (C : Hp → Prop) (c : C Hn) (h : ∀ Hx, C Hx → G Hx) : G Hn := h Hn c
theorem at_heap2 {γ : Type} {q : γ} {G : Hp → γ → Prop} {Hn : Hp} (C : Hp → Prop) (c : C Hn) (h : ∀ Hx, C Hx → G Hx q) : G Hn q := h Hn c
end Ts
namespace Ts
open PySem PySem.Spec PyProof.Rows L2
/-! ## rules that name the keeper -/
section
variable {X : Cx} {K : PySem.W.Frag} {e : Expr} {te : TE} {ta : TA} {p pos tpos : Pos} {f : Str} {elts : List Expr} {kk : Nat}
theorem pe_fldK (hK : X.K = K) (he : PE X e te) (hb : attributeBase e f X.env (eval e X.env) = eval e X.env) : PE X (.Attribute e f pos) (tFld K te f) := by subst hK; exact pe_fld he hb
end
/-! ## a walk -/
def lowsR (js : List Job) (t : Nat) : List Int := js.map fun j => lowI j.2.1 j.2.2 (t : Int)
def doubN (js : List Job) (t : Nat) : Nat := crewN (posL (fun j : Job => decide (lowI j.2.1 j.2.2 (t : Int) < highI j.2.1 j.2.2 (t : Int))) js 0)
def growN (js : List Job) (t : Nat) : Nat := grownL (lowsR js t) (lowsR js (t + 1))
def naL (n : Nat) : List Nat := (List.range n).map (notAheadN n)
def livK (js : List Job) (hs : List Nat) : Nat → Nat
  | 0 => possN js.length (doubN js hs.length)
  | k + 1 => beforeN (livK js hs k) (growN js (hs.length - (k + 1))) (naL js.length) (hs.getD (hs.length - (k + 1)) 0) &&& possN js.length (doubN js (hs.length - (k + 1)))
def livL (js : List Job) (hs : List Nat) : List Nat := if livK js hs hs.length = 0 then List.replicate (hs.length + 1) 0 else (List.range (hs.length + 1)).map fun m => livK js hs (hs.length - m)
def Seq (K : PySem.W.Frag) (H : Hp) (a : Addr) (xs : List V) : Prop := SqL K H a xs ∨ SqT K H a xs
theorem Seq.mono {K : PySem.W.Frag} {H H' : Hp} {a : Addr} {xs : List V} (h : Seq K H a xs) (s : Same H H') : Seq K H' a xs := h.imp (fun z => s.seq z) fun z => sameT s z
abbrev rowsD (js : List Job) (m : Nat) : List PyData := (List.range m).map fun t => PyData.list ((lowsR js t).map PyData.int)
/-- the fields of a walk but the last one -/
structure WalkF (K : PySem.W.Frag) (H : Hp) (fs : List (Str × V)) (js : List Job) (hs : List Nat) : Prop where
  ticks : fs.lookup ("ticks" : Str) = some (.int (hs.length : Int))
  most : ∃ a, fs.lookup ("most" : Str) = some (.ref a) ∧ Seq K H a (natV hs)
  sizes : ∃ a, fs.lookup ("sizes" : Str) = some (.ref a) ∧ SqL K H a (natV (sizesN js.length))
  parts : ∃ v, fs.lookup ("parts" : Str) = some v ∧ Dp K H v (.list (subsD js.length))
  lows : ∃ v, fs.lookup ("lows" : Str) = some v ∧ Dp K H v (.list (rowsD js (hs.length + 1)))
  doubles : ∃ a, fs.lookup ("doubles" : Str) = some (.ref a) ∧ SqL K H a (natV ((List.range (hs.length + 1)).map (doubN js)))
  grown : ∃ a, fs.lookup ("grown" : Str) = some (.ref a) ∧ SqL K H a (natV ((List.range hs.length).map (growN js)))
theorem WalkF.mono {K : PySem.W.Frag} {H H' : Hp} {fs : List (Str × V)} {js : List Job} {hs : List Nat} (h : WalkF K H fs js hs) (s : Same H H') : WalkF K H' fs js hs := by
  obtain ⟨a, ⟨b1, b2, b3⟩, ⟨c1, c2, c3⟩, ⟨d1, d2, d3⟩, ⟨e1, e2, e3⟩, ⟨f1, f2, f3⟩, ⟨g1, g2, g3⟩⟩ := h
  exact ⟨a, ⟨b1, b2, b3.mono s⟩, ⟨c1, c2, s.seq c3⟩, ⟨d1, d2, d3.mono s⟩, ⟨e1, e2, e3.mono s⟩, ⟨f1, f2, s.seq f3⟩, ⟨g1, g2, s.seq g3⟩⟩
structure WalkAt (K : PySem.W.Frag) (C : Addr) (H : Hp) (a : Addr) (js : List Job) (hs : List Nat) : Prop where
  ex : ∃ dx fs, H a = some (.ins C dx fs) ∧ WalkF K H fs js hs ∧ (∃ p, fs.lookup ("living" : Str) = some (.ref p) ∧ SqL K H p (natV (livL js hs))) ∧ fs.lookup ("crews" : Str) = none ∧ fs.lookup ("is_alive" : Str) = none ∧ fs.lookup ("choices" : Str) = none ∧ fs.lookup ("ahead_behind" : Str) = none ∧ fs.lookup ("ahead_before" : Str) = none ∧ fs.lookup ("numbers_of" : Str) = none
theorem WalkAt.mono {K : PySem.W.Frag} {C : Addr} {H H' : Hp} {a : Addr} {js : List Job} {hs : List Nat} (h : WalkAt K C H a js hs) (s : Same H H') : WalkAt K C H' a js hs := by
  obtain ⟨dx, fs, h1, h2, ⟨p, h3, h4⟩, h5⟩ := h.ex
  exact ⟨dx, fs, s _ _ h1, h2.mono s, ⟨p, h3, s.seq h4⟩, h5⟩
/-! ## what is asked -/
/-! ## bounds -/
theorem doub_lt (js : List Job) (t : Nat) : doubN js t < 2 ^ js.length := posL_lt0 _ _
/-! ## what stays when an object gets a field -/
section
variable {K : PySem.W.Frag} {H H' : Hp} {a : Addr} {o : HO}
theorem sqt_but {p : Addr} {xs : List V} (ha : H a = some o) (n : NoSeq o) (b : But a H H') (h : SqT K H p xs) : SqT K H' p xs := sameT hid_sub (sameT b.hid (h.hide ha n))
theorem dpa_but {vs : List V} {ds : List PyData} (ha : H a = some o) (n : NoSeq o) (b : But a H H') (h : DpAll K H vs ds) : DpAll K H' vs ds := ((h.hide ha n).mono b.hid).mono hid_sub
end
end Ts
namespace Ts
open PySem PySem.Spec PyProof.Rows L2
/-! ## what a walk tells -/
def aliveB (js : List Job) (hs : List Nat) (m c : Nat) : Bool := decide ((livL js hs).getD m 0 / 2 ^ c % 2 = 1)
def crewsN (js : List Job) (hs : List Nat) (m a : Nat) : List Nat :=
  (((subsN js.length).getD (needN (doubN js (m + 1)) (xorN (growN js m) a)) []).filter fun p => decide ((sizesN js.length).getD p 0 + (sizesN js.length).getD (needN (growN js m) a) 0 ≤ hs.getD m 0)).map (needN (growN js m) a + ·)
def choicesN (js : List Job) (hs : List Nat) (m a : Nat) : List Nat := (crewsN js hs m a).filter fun c => (livL js hs).getD (m + 1) 0 / 2 ^ (a + c - growN js m) % 2 == 1
end Ts
namespace Ts
open PySem PySem.Spec PyProof.Rows L2 L2H LamX
/-! ## what is heard of the functions of logs -/
/-- what repr says of what is wrong -/
structure ShIs (K : PySem.W.Frag) (u : V) (d : PyData) : Prop where
  dp : ∀ H : Hp, Dp K H u d
  sh : d.showable = true
  nd : d.hasDict = false
  dep : d.depth < 60
  len : d.shown.length ≤ sizeLine
  eq : shV u = d.shown
  ok : PyData.strOk d.shown = true
theorem ShIs.shown {K : PySem.W.Frag} {u : V} {d : PyData} (h : ShIs K u d) (H : Hp) : ShownV K H u (shV u) := ⟨d, h.dp H, h.sh, h.nd, h.dep, h.len, h.eq⟩
/-! ## what the law asks, where lambdas are made -/
def spRightT (T : List (Addr × Str)) : Sp := fun vs H Q _ => ∃ b : Addr, vs = [.ref b] ∧ Bas H b ∧ Tabs T H ∧ ∀ H', Ext2 b H H' → Tabs T H' → Q (.bl true) H'
end Ts
namespace Ts
open PySem PySem.Spec PyProof.Rows L2 L2H LamX
/-- the table of the code of a def that makes lambdas -/
abbrev lamT (PT : Addr) (q : Str) : List (Addr × Str) := [(PT, q ++ ".<locals>." ++ "<lambda>")]
/-! ## the list of what was told, call by call -/
structure Ph (T : List (Addr × Str)) (b lt : Addr) (due : Option (Str × Str)) (H5 Hn : Hp) (xs : List V) (ws : List (Str × Str)) : Prop where
  B : Bas Hn b
  T : Tabs T Hn
  l : Hn lt = some (.lst xs)
  ps : Pairs (hid2 lt Hn) xs ws
  fs : ∀ w ∈ ws, Fits due w
  nb : lt ≠ b
  s : ExtN H5 (hid2 lt Hn)
theorem Ph.x {T : List (Addr × Str)} {b lt : Addr} {due : Option (Str × Str)} {H5 Hn : Hp} {xs : List V} {ws : List (Str × Str)} (h : Ph T b lt due H5 Hn xs ws) : ExtN H5 Hn := h.s.trans (ExtN.of hid2_sub)
theorem Pairs.snoc {H : Hp} : ∀ {xs : List V} {ws : List (Str × Str)} {x : V} {w : Str × Str}, Pairs H xs ws → PairAt H x w → Pairs H (xs ++ [x]) (ws ++ [w])
  | _, _, _, _, .nil, h => .cons h .nil
  | _, _, _, _, .cons g t, h => .cons g (t.snoc h)
theorem Ph.next {T : List (Addr × Str)} {b lt l : Addr} {due : Option (Str × Str)} {H5 Hn H6 H7 : Hp} {xs : List V} {ws : List (Str × Str)} {w : Str × Str} (h : Ph T b lt due H5 Hn xs ws) (x : ExtN Hn H6) (T6 : Tabs T H6) (s7 : Same H6 H7) (F : Fits due w) (g : H7 l = some (.lst [.str w.1, .str w.2])) :
    Ph T b lt due H5 (upd H7 lt (.lst (xs ++ [.ref l]))) (xs ++ [.ref l]) (ws ++ [w]) := by
  have x7 := x.trans (ExtN.of s7)
  have hl : H7 lt = some (.lst xs) := x7 _ _ h.l fun _ z => by cases z
  have nl : l ≠ lt := fun z => by
    subst z
    rw [hl] at g
    have e : xs = [.str w.1, .str w.2] := by injection (Option.some.inj g)
    have hp := h.ps
    rw [e] at hp
    cases hp with
    | cons z _ => obtain ⟨p, e, _⟩ := z; cases e
  have bt : But lt H7 (upd H7 lt (.lst (xs ++ [.ref l]))) := fun a o n e => by rw [upd_ne n]; exact e
  have S : Same (hid2 lt Hn) (hid2 lt (upd H7 lt (.lst (xs ++ [.ref l])))) := (hid2_ext x7).trans (hid2_but bt)
  have B7 := h.B.ext x7
  refine ⟨?_, tabs_lst (T6.ext s7) hl bt, upd_same, (h.ps.mono S).snoc ⟨l, rfl, hid2_of nl (fun _ z => by cases z) (bt _ _ nl g)⟩, fun w' hw => ?_, h.nb, h.s.trans (ExtN.of S)⟩
  · obtain ⟨x, y, z, e⟩ := B7
    exact ⟨x, y, z, bt _ _ h.nb.symm e⟩
  · rcases List.mem_append.mp hw with z | z
    · exact h.fs _ z
    · cases List.mem_singleton.mp z; exact F
end Ts
namespace Ts
open PySem PySem.Spec PyProof.Rows L2 L2H LamX
/-! ## own errors over any built-in base: the class -/
structure OexB (K : PySem.W.Frag) (C : Addr) : Prop where
  bas : ∃ (B newId initId : String) (bmB : List Value), ExcBaseFacts B newId initId bmB ∧ StoreFacts B bmB "object.__setattr__" "object" ∧ PySem.W.excInitIn K C bmB newId = true ∧ PySem.W.excOver K C bmB = true
  dct : PySem.W.hasDictIn K C = true
  sa : PySem.W.findIn K (.ref C) "__setattr__" = some (some (.builtin "object.__setattr__"))
  exC : PySem.W.subIn K (.ref C) (.type "BaseException") = some true
  tyC : PySem.W.typeIn K (.ref C) = some (.type "type")
  kC : PySem.W.keepIn K (.ref C) = true
section
open Builtin Builtin.ObjectAttr PySem.W PySem.HandSPX
variable {prog : Program} {w : World} {A : Around} {E : Value → Shared → Prop} {R : Result → Shared → Prop} {h9 : Heap} {g9 : Array GenState} {d9 : Drawn} {t9 : Nat} {os9 : OsState}
/-- the first field of an exception over any base -/
theorem osa_first {K : W.Frag} {B : String} {bmB : List Value} {fld : Str} {tk : Tok} {val : Value} {e9 C : Addr} {fv : Array Value} (SF : StoreFacts B bmB "object.__setattr__" "object") (X9 : K.In h9)
    (he : h9.get? e9 = some { cls := .ref C, data := .fields fv }) (ov : excOver K C bmB = true) (hh : hasDictIn K C = true) (no : findIn K (.ref C) fld = some none)
    (hq : ∀ k9 tk' x9, (∀ b o, b ≠ e9 → h9.get? b = some o → k9.get? b = some o) → h9.objs.size ≤ x9 → x9 ≠ e9 → k9.get? e9 = some { cls := .ref C, dict := some x9, data := .fields fv } →
      k9.Ns1 x9 (fun y => if y = fld then some val else none) → R (.ok (.ret .none)) ⟨k9, g9, d9, tk', os9⟩) :
    codeAny (model prog w) A (.call (.builtin "object.__setattr__") ⟨[.ref e9, .str fld tk, val], []⟩) R ⟨h9, g9, d9, t9, os9⟩ := by
  have I9 : InstAt h9 e9 { cls := .ref C, data := .fields fv } C none := ⟨he, rfl, rfl, trivial⟩
  have n9 : e9 ≠ h9.objs.size := Nat.ne_of_lt (Heap.lt_size he)
  refine osa_openX SF X9 I9 ov (show takerIn K C fld = some none by unfold takerIn; rw [no]; rfl) fun b => ?_
  show wpAny _ _ (storeInOwnDict (.ref e9) (.ref C) (.str fld tk) fld val b) _ _ _
  obtain ⟨cd9, hc, hd9⟩ := any_some hh
  have L9 : Looks (model prog w) h9 (classData C) cd9 := looks_clsIn X9 hc
  obtain ⟨a1, a2, a3, a4, a5, hd, a6, a7, a8, a10, a11⟩ := cd9
  (try dsimp only at hd9)
  subst hd9
  unfold storeInOwnDict ownDictForStores
  repeat (first | with_reducible refine PySem.HandSPX.store_in_new ?_ ?_ | with_reducible refine wpAny_loadPart_at he ?_ | with_reducible refine L9.at ?_ | wp_step)
  · exact ⟨_, #[], _, (Heap.get?_update_ne _ _ _ _ n9.symm).trans (Heap.get?_push_at rfl rfl), rfl, fun z hz => absurd hz (by simp), fun _ => rfl⟩
  · intro k9 tk' hn9 hs9
    have he1 : (h9.push { cls := .type "dict", data := .dict #[] }).get? e9 = some { cls := .ref C, data := .fields fv } := Heap.get?_push_of_some _ he
    refine hq k9 tk' h9.objs.size (fun b o hb ho => ?_) (Nat.le_refl _) n9.symm ?_ hn9
    · exact (hs9.2 b (Nat.ne_of_lt (Heap.lt_size ho))).trans ((Heap.get?_update_ne _ _ _ _ hb).trans (Heap.get?_push_of_some _ ho))
    · exact (hs9.2 e9 n9).trans (Heap.get?_update_self _ he1 rfl)
end
section
variable {X : Cx} {pins : List (Addr × Obj)} {σ : L2.St} {H : Hp} {s : Shared} {a C : Addr} {fld : Str} {y : V} {u : Value} {Q : Unit → Shared → Prop} {E : Value → Shared → Prop} {A : Around}
theorem ostB_new (T : OexB X.K C) (I : L2.Inv X pins σ H s) (ea : H a = some (exo a C none)) (no : PySem.W.findIn X.K (.ref C) fld = some none) (ry : RelV y u)
    (h : ∀ x9 s', H x9 = none → x9 ≠ a → L2.Inv X pins σ (upd (upd H x9 (exd x9 [(fld, y)])) a (exo a C (some x9))) s' → Q () s') : wpAny (model X.prog X.w) A (setAttr (.ref a) fld u) Q E s := by
  obtain ⟨B, newId, initId, bmB, FB, SF, _, ov⟩ := T.bas
  obtain ⟨t1, h1⟩ := exo_at I.hok ea
  obtain ⟨h9, g9, d9, t9, os9⟩ := s
  refine PySem.W.set_plain I.kIn (od := none) ⟨h1, rfl, rfl, trivial⟩ T.sa ?_
  refine osa_first SF I.kIn h1 ov T.dct no (fun k9 tk' x9 kp xn xne hx9 hn9 => ?_)
  have fr9 : H x9 = none := I.hok.fresh xn
  have old : ∀ {b : Addr} {o : Obj}, h9.get? b = some o → b ≠ x9 := fun q => Nat.ne_of_lt (Nat.lt_of_lt_of_le (Heap.lt_size q) xn)
  have off : ∀ {b : Addr}, H b = none → b ≠ a := fun n z => by rw [z, ea] at n; cases n
  have U9 : Un X.fs [] H (upd (upd H x9 (exd x9 [(fld, y)])) a (exo a C (some x9))) h9 k9 :=
    { keep := fun b o q n _ _ => kp b o (off n) q
      slot := fun b o q n _ _ => ⟨o.slots, kp b o (off n) q⟩
      free := fun b o q n _ => by rw [upd_ne (off n), upd_ne (old q)]; exact n
      there := fun b o q _ => by
        by_cases hb : b = a
        · exact ⟨_, hb ▸ hx9⟩
        · exact ⟨o, kp b o hb q⟩
      tups := fun b xs q => by rw [upd_ne (at_ne ea q exo_tup), upd_ne (ne_of_none q fr9)]; exact q
      frzs := fun b o v q => by rw [upd_ne (at_ne ea q exo_frz), upd_ne (ne_of_none q fr9)]; exact q
      tbls := fun b ps q => ⟨#[], by rw [upd_ne (at_ne ea q exo_tbl), upd_ne (ne_of_none q fr9), q]; simp⟩ }
  refine h x9 _ fr9 xne (I.un (t' := tk') U9 fun b o q => ?_)
  by_cases hb : b = a
  · subst hb
    rw [upd_same] at q; cases q
    exact exo_ok hx9
  rw [upd_ne hb] at q
  by_cases hd : b = x9
  · subst hd
    rw [upd_same] at q; cases q
    exact exd_ok hn9 (relO_put (fs := []) ry fun _ => trivial)
  rw [upd_ne hd] at q
  refine (I.hok b o q).stay (fun c v hc z => kp c v (hc.elim (fun e => e ▸ hb) fun e => at_ne ea e exo_own) z) (fun c hc => ?_) (fun c xs hc => ?_)
  · rw [upd_ne (at_ne ea hc exo_own), upd_ne (ne_of_none hc fr9)]; exact hc
  · rw [upd_ne (at_ne ea hc exo_tup), upd_ne (ne_of_none hc fr9)]; exact hc
end
/-- self.fld = e, the first field -/
def tOstB (K : PySem.W.Frag) (fld : Str) (to te : TE) : TS := fun D σ H => te σ H fun y H1 => to σ H1 fun x H2 => ∃ a C : Addr, x = .ref a ∧ OexB K C ∧ PySem.W.findIn K (.ref C) fld = some none ∧
  H2 a = some (exo a C none) ∧ ∀ dx, H2 dx = none → dx ≠ a → D.nx σ (upd (upd H2 dx (exd dx [(fld, y)])) a (exo a C (some dx)))
section
variable {X : Cx} {o e : Expr} {to te : TE} {fld : Str} {p p' pos : Pos}
theorem ps_ostB (ho : PE X o to) (he : PE X e te) (hs : swapsWith e (some (.Attribute o fld p')) pos.line X.env = pure false := by rfl) : PS X (.Assign [.Attribute o fld p'] e pos) (tOstB X.K fld to te) := by
  refine ⟨fun pins s σ H D I h => ?_⟩
  refine plainObj_wpAny_Assign_Attribute (thn (he.run pins s σ H _ I h) fun v s1 ⟨y, H1, I1, r1, q1⟩ => thn (ho.run pins s1 σ H1 _ I1 q1) fun u s2 ⟨x, H2, I2, r2, a, C, ex, T, no, ea, q⟩ => ?_) hs
  subst ex
  cases (show u = Value.ref a from r2)
  exact ostB_new T I2 ea no r1 fun dx s' n ne J => ⟨σ, _, J, q dx n ne⟩
end
/-- C(e, ..), C an own error over any base, its own __init__ keeping sp -/
theorem pmk_oexB {X : Cx} {e : Expr} {es : List Expr} {ta : TA} {p pos : Pos} {CX : CXT} {x : Str} {C fI : Addr} {k : Nat} {fd : FuncData} {ps : List Str} {sp : Sp} (T : OexB X.K C) (iC : PySem.W.findIn X.K (.ref C) "__init__" = some (some (.ref fI))) (tI : PySem.W.typeIn X.K (.ref fI) = some (.type "function"))
    (F1 : FnOk X.prog X.w X.K X.mg X.base CX k fI fd ps sp) (hr : Room (k + 1) X.A) (hb : L2.Binds X.K fd ps []) (hx : Passes CX X (fun _ _ _ => False)) (hg : Gl X x) (hm : X.mg x = some (.ref C)) (ha : PA X (e :: es) ta)
    (hdb : (x == ("__debug__" : Str)) = false := by decide) (hse : starEach (e :: es) X.env = (false, eval e X.env) :: starEach es X.env := by rfl) (hnp : (backTo pos (starEach es X.env)).any (·.1) = false := by rfl) :
    PMk X (.Call (.Name x p) (e :: es) [] pos) (tMkO C sp [] ta) := by
  intro pins s σ H Q I h
  obtain ⟨B, newId, initId, bmB, FB, SF, ini, _⟩ := T.bas
  refine wpAny_Call_Name_kw (ld_glob I hg hm ?_ hdb)
  refine PySem.W.callWith_K (h₀ := X.base) I.ok.mod.kin T.kC (thn (ha.run pos pins s σ H _ I h) fun us s1 ⟨vs, H1, I1, r1, hz, q1⟩ => ⟨I1.kIn, ?_⟩) hse hnp
  show wpAny _ _ (call (.ref C) us) _ _ _
  obtain ⟨nm, N, qn, bs, bm, hdct, sn, sub, ab, col, dd, k0, k1, k2, k3, k5, hC, hT⟩ := PySem.W.excInit_of I1.kIn ini
  obtain ⟨h9, g9, d9, t9, os9⟩ := s1
  have grow : h9.objs.size ≤ h9.objs.size + 1 := Nat.le_succ _
  have hq := q1 (h9.objs.size + 1) (I1.hok.fresh grow)
  have keep9 : ∀ b o, h9.get? b = some o → ((h9.push (PySem.W.kdv_tup us)).push (PySem.HandSPX.excO C h9.objs.size)).get? b = some o := fun _ _ z => Heap.get?_push_of_some _ (Heap.get?_push_of_some _ z)
  have at9 : ((h9.push (PySem.W.kdv_tup us)).push (PySem.HandSPX.excO C h9.objs.size)).get? (h9.objs.size + 1) = some (PySem.HandSPX.excO C h9.objs.size) := by heap_get
  have I2 : L2.Inv X pins σ (upd H1 (h9.objs.size + 1) (exo (h9.objs.size + 1) C none)) ⟨(h9.push (PySem.W.kdv_tup us)).push (PySem.HandSPX.excO C h9.objs.size), g9, d9, t9, os9⟩ :=
    I1.laid (t' := t9) (a := h9.objs.size + 1) (o := exo (h9.objs.size + 1) C none) (h' := (h9.push (PySem.W.kdv_tup us)).push (PySem.HandSPX.excO C h9.objs.size)) keep9 grow (exo_ok at9)
  have r2 : Vals (V.ref (h9.objs.size + 1) :: (vs ++ [])) (Value.ref (h9.objs.size + 1) :: (us ++ [])) := .cons rfl (r1.append .nil)
  have ln9 : (Value.ref (h9.objs.size + 1) :: us ++ []).length = ps.length := (r2.length.symm.trans (F1.len _ _ _ _ hq))
  have few9 : us.length ≤ sizeLine := by rw [← Paired.length r1, sizeLine_eq]; omega
  have bd9 := hb ⟨(h9.push (PySem.W.kdv_tup us)).push (PySem.HandSPX.excO C h9.objs.size), g9, d9, t9, os9⟩ (Value.ref (h9.objs.size + 1) :: us) I2.kIn ln9
  rw [List.cons_append] at bd9
  refine wpAny_call (PySem.HandSPX.call_own FB hT hC (PySem.W.looks_findIn I1.kIn iC) (fun self => PySem.W.bind_fn I1.kIn self tI) few9
    (codeAny_mono (F1.run _ X.stack _ _ ⟨Value.ref (h9.objs.size + 1) :: us, []⟩ (Value.ref (h9.objs.size + 1) :: (us ++ [])) _ _ (fun _ _ _ => False) (hr.make C us []) (I2.env0.make C us []) bd9 r2 hq) fun r s' z => ?_))
  cases r with
  | error er => exact hx pins σ _ _ er s' I2 z
  | ok fl =>
    cases fl with
    | ret u =>
      obtain ⟨v, H2, o2, b2, un2, hok2, rv, ev, d, fs, ea, ed, hd1, q2⟩ := z
      subst ev
      obtain ⟨k9, g8, d8, t8, os8⟩ := s'
      exact ⟨rv, mk_end (raises_own T.exC T.tyC) I1 grow keep9 un2 hok2 o2 b2 ea ed hd1 q2⟩
    | next => exact z.elim
    | brk => exact z.elim
    | cont => exact z.elim
/-! ## own errors of one field, over any base -/
structure ErrB (P : Program) (w : World) (K : PySem.W.Frag) (mg : Str → Option Value) (base : Heap) (x : Str) (C : Addr) (fld : Str) : Prop where
  oex : OexB K C
  no : PySem.W.findIn K (.ref C) fld = some none
  gl : mg x = some (.ref C)
  ini : ∃ fI fd, PySem.W.findIn K (.ref C) "__init__" = some (some (.ref fI)) ∧ PySem.W.typeIn K (.ref fI) = some (.type "function") ∧ FnOk P w K mg base CX0 1 fI fd ["self", fld] (spErr C fld) ∧ L2.Binds K fd ["self", fld] []
theorem errB_init {P : Program} {w : World} {K : PySem.W.Frag} {mg : Str → Option Value} {base : Heap} {qual fld : Str} {st : Stmt} {f C : Addr} {fd : FuncData} (F : Fun K "__init__" qual st f fd) (S : FnScope ["self", fld] ["self", fld] (defScope st)) (T : OexB K C) (no : PySem.W.findIn K (.ref C) fld = some none)
    (hb : ∀ (cdv : Value) (A : Around) (outer : List Env) (s : Shared) (H : Hp) (E : XK), PSs (cxOf CX0 P w K mg base ["self", fld] qual (defScope st) f cdv A outer s H E).nox (defBody st) (tOstB K fld (tVar 0) (tVar 1))) : FnOk P w K mg base CX0 1 f fd ["self", fld] (spErr C fld) := by
  refine F.ok S (fun vs H Q E h => ?_) (fun cdv A outer s H vs Q E hr h => ?_)
  · obtain ⟨a, v, rfl, _⟩ := h; rfl
  obtain ⟨a, v, rfl, ha, q⟩ := h
  exact ⟨_, hb cdv A outer s H E, _, rfl, _, rfl, a, C, rfl, T, no, ha, fun dx h1 h2 => q dx h1 h2⟩
theorem pmk_errB {X : Cx} {x fld : Str} {C : Addr} {e : Expr} {te : TE} {p pos : Pos} (T : ErrB X.prog X.w X.K X.mg X.base x C fld) (hr : Room 2 X.A) (he : PE X e te) (hg : Gl X x := by rfl) (hdb : (x == ("__debug__" : Str)) = false := by decide)
    (hse : starEach [e] X.env = (false, eval e X.env) :: starEach [] X.env := by rfl) (hpl : (backTo pos (starEach [] X.env)).any (·.1) = false := by rfl) : PMk X (.Call (.Name x p) [e] [] pos) (tMkO C (spErr C fld) [] (tCons te tNil)) := by
  obtain ⟨fI, fd, h1, h2, h3, h4⟩ := T.ini
  exact pmk_oexB (X := X) (p := p) (pos := pos) T.oex h1 h2 h3 hr h4 (fun _ _ _ _ _ _ _ (z : False) => z.elim) hg T.gl (pa_cons he pa_nil hse) hdb hse hpl
end Ts
namespace Ts
open PySem PySem.Spec PyProof.Rows L2 L2H LamX
/-! ## what repr says, of any kind of value that a law hands in -/
/-- data without dicts, or an empty dict -/
inductive ShW (K : PySem.W.Frag) (H : Hp) : V → Str → Prop
  | data {v : V} {d : PyData} : Dp K H v d → d.showable = true → d.hasDict = false → d.depth < 60 → d.shown.length ≤ sizeLine → ShW K H v d.shown
  | emp {a : Addr} : H a = some (.dK []) → ShW K H (.ref a) "{}"
theorem ShW.mono {K : PySem.W.Frag} {H H' : Hp} {v : V} {t : Str} (h : ShW K H v t) (s : Same H H') : ShW K H' v t := by
  cases h with
  | data a b c d e => exact .data (a.mono s) b c d e
  | emp a => exact .emp (s _ _ a)
/-! ## a call that is heard, anew: repr by ShE of what an error keeps, by ShO of what comes back; errors without a field, too -/
/-! ## methods that raise -/
end Ts
namespace Ts
open PySem PySem.Spec PyProof.Rows L2 L2H LamX
/-! ## repr of own objects, alone or in a tuple or list of one -/
def LotR (K : PySem.W.Frag) (C : Addr) : Addr → Hp → Str → Prop := fun a H t => ∃ (n : Nat) (js : List Job), LotAt K C H a n js ∧ n ≤ 1000 ∧ js.length ≤ 20 ∧ t = reprS js.length n
theorem LotR.ins {K : PySem.W.Frag} {C a : Addr} {H : Hp} {t : Str} (h : LotR K C a H t) : ∃ dx fs, H a = some (.ins C dx fs) := by
  obtain ⟨n, js, L, _⟩ := h
  obtain ⟨dx, pn, ps, pt, ha, _⟩ := L.ex
  exact ⟨dx, _, ha⟩
end Ts
namespace Ts
open PySem PySem.Spec PyProof.Rows L2 L2H LamX
/-- data, an empty dict, a lot, or a tuple or a list of one lot -/
inductive ShC (K : PySem.W.Frag) (C : Addr) (H : Hp) : V → Str → Prop
  | w {v : V} {t : Str} : ShW K H v t → ShC K C H v t
  | lot {a : Addr} {t : Str} : LotR K C a H t → ShC K C H (.ref a) t
  | tup {p a : Addr} {t : Str} : H p = some (.tup [.ref a]) → LotR K C a H t → ShC K C H (.ref p) (tupleText [t])
  | lst {p a : Addr} {t : Str} : H p = some (.lst [.ref a]) → LotR K C a H t → ShC K C H (.ref p) (listText [t])
theorem LotR.mono {K : PySem.W.Frag} {C a : Addr} {H H' : Hp} {t : Str} (h : LotR K C a H t) (s : Same H H') : LotR K C a H' t := by
  obtain ⟨n, js, L, h⟩ := h
  exact ⟨n, js, L.mono s, h⟩
theorem LotR.len {K : PySem.W.Frag} {C a : Addr} {H : Hp} {t : Str} (h : LotR K C a H t) : t.length ≤ 40 := by
  obtain ⟨n, js, L, h1, h2, rfl⟩ := h
  have l5 := numS_len (n := js.length) (by omega)
  have l6 := numS_len h1
  unfold reprS
  have l1 : (Str.ofString "Lot of ").length = 7 := by decide
  have l2 : (Str.ofString " works, ").length = 8 := by decide
  have l3 : (Str.ofString " hands").length = 6 := by decide
  rw [strLen_append, strLen_append, strLen_append, strLen_append, l1, l2, l3]
  omega
theorem ShC.mono {K : PySem.W.Frag} {C : Addr} {H H' : Hp} {v : V} {t : Str} (h : ShC K C H v t) (s : Same H H') : ShC K C H' v t := by
  cases h with
  | w a => exact .w (a.mono s)
  | lot a => exact .lot (a.mono s)
  | tup a b => exact .tup (s _ _ a) (b.mono s)
  | lst a b => exact .lst (s _ _ a) (b.mono s)
end Ts
namespace Ts
open PySem PySem.Spec PyProof.Rows L2 L2H LamX
/-! ## any value: data, or an empty dict -/
def AnyV (K : PySem.W.Frag) (H : Hp) (v : V) : Option PyData → Prop
  | some d => Dp K H v d
  | none => ∃ a, v = .ref a ∧ H a = some (.dK [])
theorem AnyV.mono {K : PySem.W.Frag} {H H' : Hp} {v : V} {o : Option PyData} (h : AnyV K H v o) (s : Same H H') : AnyV K H' v o := by
  cases o with
  | none => obtain ⟨a, e, h⟩ := h; exact ⟨a, e, s _ _ h⟩
  | some d => exact (show Dp K H v d from h).mono s
theorem AnyV.ext {K : PySem.W.Frag} {H H' : Hp} {v : V} {o : Option PyData} (h : AnyV K H v o) (s : ExtN H H') : AnyV K H' v o := by
  cases o with
  | none => obtain ⟨a, e, h⟩ := h; exact ⟨a, e, s _ _ h fun _ z => by cases z⟩
  | some d => exact dp_ext s _ _ h
def tyN : Option PyData → String
  | none => "dict"
  | some .none => "NoneType"
  | some (.bool _) => "bool"
  | some (.int _) => "int"
  | some (.str _) => "str"
  | some (.list _) => "list"
  | some (.tuple _) => "tuple"
  | some (.dict _) => "dict"
theorem AnyV.ty {K : PySem.W.Frag} {H : Hp} {v : V} {o : Option PyData} (h : AnyV K H v o) : TyX K H v (.type (tyN o)) := by
  cases o with
  | none => obtain ⟨a, rfl, h⟩ := h; exact .base (.dK h)
  | some d =>
    have h' : Dp K H v d := h
    cases h' with
    | non => exact .base .non
    | bl b => exact .base (.bl b)
    | int i => exact .base (.int i)
    | str x => exact .base (.str x)
    | lst a b => exact SqL.ty a
    | tup a b => exact SqT.ty a
theorem AnyV.kind {K : PySem.W.Frag} {H : Hp} {v : V} {o : Option PyData} (h : AnyV K H v o) : KindV K H v (o.bind kindD) := by
  cases o with
  | none => obtain ⟨a, rfl, h⟩ := h; exact ⟨"dict", by decide, .base (.dK h)⟩
  | some d => exact dp_kind h
theorem tyN_in (o : Option PyData) : tyN o ∈ ["dict", "NoneType", "bool", "int", "str", "list", "tuple"] := by
  match o with
  | none => exact (by decide : "dict" ∈ ["dict", "NoneType", "bool", "int", "str", "list", "tuple"])
  | some .none => exact (by decide : "NoneType" ∈ ["dict", "NoneType", "bool", "int", "str", "list", "tuple"])
  | some (.bool _) => exact (by decide : "bool" ∈ ["dict", "NoneType", "bool", "int", "str", "list", "tuple"])
  | some (.int _) => exact (by decide : "int" ∈ ["dict", "NoneType", "bool", "int", "str", "list", "tuple"])
  | some (.str _) => exact (by decide : "str" ∈ ["dict", "NoneType", "bool", "int", "str", "list", "tuple"])
  | some (.list _) => exact (by decide : "list" ∈ ["dict", "NoneType", "bool", "int", "str", "list", "tuple"])
  | some (.tuple _) => exact (by decide : "tuple" ∈ ["dict", "NoneType", "bool", "int", "str", "list", "tuple"])
  | some (.dict _) => exact (by decide : "dict" ∈ ["dict", "NoneType", "bool", "int", "str", "list", "tuple"])
theorem tyN_str {o : Option PyData} (h : tyN o = "str") : ∃ t, o = some (.str t) := by
  match o with
  | none => exact absurd h (by decide)
  | some .none => exact absurd h (by decide)
  | some (.bool _) => exact absurd h (by show ¬ "bool" = "str"; decide)
  | some (.int _) => exact absurd h (by show ¬ "int" = "str"; decide)
  | some (.str t) => exact ⟨t, rfl⟩
  | some (.list _) => exact absurd h (by show ¬ "list" = "str"; decide)
  | some (.tuple _) => exact absurd h (by show ¬ "tuple" = "str"; decide)
  | some (.dict _) => exact absurd h (by show ¬ "dict" = "str"; decide)
theorem tyN_tup {o : Option PyData} (h : tyN o = "tuple") : ∃ ds, o = some (.tuple ds) := by
  match o with
  | none => exact absurd h (by decide)
  | some .none => exact absurd h (by decide)
  | some (.bool _) => exact absurd h (by show ¬ "bool" = "tuple"; decide)
  | some (.int _) => exact absurd h (by show ¬ "int" = "tuple"; decide)
  | some (.str t) => exact absurd h (by show ¬ "str" = "tuple"; decide)
  | some (.list _) => exact absurd h (by show ¬ "list" = "tuple"; decide)
  | some (.tuple ds) => exact ⟨ds, rfl⟩
  | some (.dict _) => exact absurd h (by show ¬ "dict" = "tuple"; decide)
theorem no_str {K : PySem.W.Frag} {o : Option PyData} (h : tyN o ≠ "str") : PySem.W.kitOne K (.type (tyN o)) (.type "str") = some false := by
  have go : ∀ T ∈ ["dict", "NoneType", "bool", "int", "str", "list", "tuple"], T ≠ "str" → kitB T "str" = some false := by decide +kernel
  exact kit_ty (go _ (tyN_in o) h)
theorem no_tup {K : PySem.W.Frag} {o : Option PyData} (h : tyN o ≠ "tuple") : PySem.W.kitOne K (.type (tyN o)) (.type "tuple") = some false := by
  have go : ∀ T ∈ ["dict", "NoneType", "bool", "int", "str", "list", "tuple"], T ≠ "tuple" → kitB T "tuple" = some false := by decide +kernel
  exact kit_ty (go _ (tyN_in o) h)
/-! ## what is a name, what is a share -/
/-- the value is not too long -/
def shortV : Option PyData → Prop
  | some (.str t) => t.length ≤ 100 ∧ PyData.strOk t = true
  | some (.tuple ds) => ds.length ≤ 100
  | _ => True
/-! ## put, given anything -/
end Ts
namespace Ts
open PySem PySem.Spec PyProof.Rows L2 L2H LamX
/-! ## odd values, drawn -/
structure OddV (K : PySem.W.Frag) (H : Hp) (v : V) (o : Option PyData) (sh : Str) : Prop where
  av : AnyV K H v o
  sv : ShW K H v sh
  lv : shortV o
  ok : PyData.strOk sh = true
theorem OddV.mono {K : PySem.W.Frag} {H H' : Hp} {v : V} {o : Option PyData} {sh : Str} (h : OddV K H v o sh) (s : Same H H') : OddV K H' v o sh := ⟨h.av.mono s, h.sv.mono s, h.lv, h.ok⟩
theorem OddV.ext {K : PySem.W.Frag} {H H' : Hp} {v : V} {o : Option PyData} {sh : Str} (h : OddV K H v o sh) (s : ExtN H H') : OddV K H' v o sh := by
  refine ⟨h.av.ext s, ?_, h.lv, h.ok⟩
  cases h.sv with
  | data a b c d e => exact .data (dp_ext s _ _ a) b c d e
  | emp a => exact .emp (s _ _ a fun _ z => by cases z)
theorem OddV.of {K : PySem.W.Frag} {H : Hp} {v : V} {d : PyData} (h : Dp K H v d) (h1 : d.showable = true) (h2 : d.hasDict = false) (h3 : d.depth < 60) (h4 : d.shown.length ≤ sizeLine) (h5 : PyData.strOk d.shown = true) (h6 : shortV (some d)) : OddV K H v (some d) d.shown := ⟨h, .data h h1 h2 h3 h4, h6, h5⟩
theorem OddV.emp {K : PySem.W.Frag} {H : Hp} {a : Addr} (h : H a = some (.dK [])) : OddV K H (.ref a) none "{}" := ⟨⟨a, rfl, h⟩, .emp h, trivial, by decide +kernel⟩
theorem strOk_all {t : Str} (h : PyData.strOk t = true) : ∀ c ∈ t.cps.toList, c < 0x110000 := fun c hc => by
  unfold PyData.strOk at h
  rw [← Array.all_toList] at h
  exact of_decide_eq_true (List.all_eq_true.mp h c hc)
end Ts
namespace Ts
open PySem PySem.Spec PyProof.Rows L2 L2H LamX
/-! ## texts of plain signs are written soundly -/
theorem chars_ok {q c : Nat} (hq : q = 34 ∨ q = 39) (hc : c < 128) : ∀ d ∈ Builtin.Str.reprChar q c, d < 0x110000 := by
  have go : ∀ q ∈ [34, 39], ∀ c : Fin 128, ((Builtin.Str.reprChar q c.val).all fun d => decide (d < 0x110000)) = true := by decide +kernel
  intro d hd
  have hq' : q ∈ [34, 39] := by rcases hq with rfl | rfl <;> decide
  exact of_decide_eq_true (List.all_eq_true.mp (go q hq' ⟨c, hc⟩) d hd)
theorem fold_ok {q : Nat} (hq : q = 34 ∨ q = 39) : ∀ (l : List Nat) (acc : Array Nat), (∀ c ∈ l, c < 128) → (∀ d ∈ acc.toList, d < 0x110000) → ∀ d ∈ (l.foldl (fun out c => out ++ (Builtin.Str.reprChar q c).toArray) acc).toList, d < 0x110000
  | [], acc, _, h => h
  | c :: l, acc, hl, h => by
    refine fold_ok hq l _ (fun x hx => hl x (List.mem_cons_of_mem _ hx)) fun d hd => ?_
    rw [Array.toList_append] at hd
    rcases List.mem_append.mp hd with z | z
    · exact h d z
    · exact chars_ok hq (hl c List.mem_cons_self) d (by simpa using z)
theorem text_ok {x : Str} (h : Plain x) : PyData.strOk (PyData.str x).shown = true := by
  show PyData.strOk (reprText x) = true
  unfold reprText
  have hq : reprQuote x = 34 ∨ reprQuote x = 39 := by
    unfold reprQuote
    split
    · exact .inl rfl
    · exact .inr rfl
  unfold PyData.strOk
  rw [← Array.all_toList, Array.toList_push, ← Array.foldl_toList]
  refine List.all_eq_true.mpr fun d hd => decide_eq_true ?_
  have q0 : reprQuote x < 0x110000 := by rcases hq with e | e <;> rw [e] <;> decide
  rcases List.mem_append.mp hd with z | z
  · refine fold_ok hq x.cps.toList _ (fun c hc => h c hc) (fun d hd => ?_) d z
    have : d = reprQuote x := by simpa using hd
    rw [this]; exact q0
  · rw [List.mem_singleton.mp z]; exact q0
theorem plain_ok {x : Str} (h : Plain x) : PyData.strOk x = true := by
  unfold PyData.strOk
  rw [← Array.all_toList]
  exact List.all_eq_true.mpr fun c hc => decide_eq_true (Nat.lt_trans (h c hc) (by decide))
theorem OddV.str {K : PySem.W.Frag} {H : Hp} {x : Str} (h : Plain x) (hl : x.length ≤ 100) : OddV K H (.str x) (some (.str x)) (PyData.str x).shown := by
  obtain ⟨a, b, c, d⟩ := (nice_str (e := 0) h hl).fits (by decide) (by decide)
  exact OddV.of (.str x) a b c d (text_ok h) ⟨hl, plain_ok h⟩
theorem two_ok {a b : Nat} (ha : a ≤ 16) (hb : b ≤ 32) : PyData.strOk (PyData.tuple [.int (a : Int), .int (b : Int)]).shown = true := by
  have go : ∀ (a : Fin 17) (b : Fin 33), PyData.strOk (PyData.tuple [.int ((a.val : Nat) : Int), .int ((b.val : Nat) : Int)]).shown = true := by decide +kernel
  exact go ⟨a, by omega⟩ ⟨b, by omega⟩
theorem OddV.two {K : PySem.W.Frag} {H : Hp} {q : Addr} {a b : Nat} (h : SqT K H q [.int (a : Int), .int (b : Int)]) (ha : a ≤ 16) (hb : b ≤ 32) : OddV K H (.ref q) (some (partD a b)) (PyData.tuple [.int (a : Int), .int (b : Int)]).shown := by
  obtain ⟨x, y, z, w⟩ := (fine_pair (a := a) (b := b) (by omega) (by omega)).fits (by decide) (by decide)
  exact OddV.of (.tup h (.cons (.int _) (.cons (.int _) .nil))) x y z w (two_ok ha hb) (by show 2 ≤ 100; decide)
/-- values of which each one is odd -/
def OddAll (K : PySem.W.Frag) (H : Hp) (xs : List V) : Prop := ∀ v ∈ xs, ∃ o sh, OddV K H v o sh
theorem OddAll.mono {K : PySem.W.Frag} {H H' : Hp} {xs : List V} (h : OddAll K H xs) (s : Same H H') : OddAll K H' xs := fun v hv => by
  obtain ⟨o, sh, g⟩ := h v hv
  exact ⟨o, sh, g.mono s⟩
theorem OddAll.nil {K : PySem.W.Frag} {H : Hp} : OddAll K H [] := fun v hv => by cases hv
theorem OddAll.cons {K : PySem.W.Frag} {H : Hp} {v : V} {o : Option PyData} {sh : Str} {xs : List V} (h : OddV K H v o sh) (t : OddAll K H xs) : OddAll K H (v :: xs) := fun u hu => by
  rcases List.mem_cons.mp hu with rfl | z
  · exact ⟨o, sh, h⟩
  · exact t u z
/-! ## lots stay but for tables -/
theorem LotAt.ext {K : PySem.W.Frag} {C : Addr} {H H' : Hp} {a : Addr} {n : Nat} {js : List Job} (L : LotAt K C H a n js) (s : ExtN H H') : LotAt K C H' a n js := by
  obtain ⟨dx, pn, ps, pt, h1, ⟨ob, h2, h5⟩, h3, h4⟩ := L.ex
  exact ⟨dx, pn, ps, pt, s _ _ h1 (fun _ z => by cases z), ⟨ob, s _ _ h2 (fun _ z => by cases z), h5⟩, dp_ext s _ _ h3, dp_ext s _ _ h4⟩
theorem Ph.kept {T : List (Addr × Str)} {b lt : Addr} {due : Option (Str × Str)} {H5 Hn : Hp} {xs : List V} {ws : List (Str × Str)} (h : Ph T b lt due H5 Hn xs ws) : Same (hid2 b H5) (hid2 b Hn) := fun a o e => by
  obtain ⟨n, t, e2⟩ := hid2_some (hid2_ext h.s a o e)
  exact hid2_of n t (hid2_sub _ _ e2)
/-! ## what is heard of put -/
def inN (js : List Job) : Option PyData → Bool
  | some (.str t) => decide (t ∈ js.map (·.1))
  | _ => false
end Ts
namespace Ts
open PySem PySem.Spec PyProof.Rows L2 L2H LamX
/-! ## lots and names, given anything -/
abbrev plainT : List String := ["dict", "NoneType", "bool", "int", "str", "list", "tuple"]
/-- no value of these kinds is a lot -/
structure LotNo (K : PySem.W.Frag) (C : Addr) : Prop where
  no : ∀ T ∈ plainT, PySem.W.kitOne K (.type T) (.ref C) = some false
/-- a value that is no lot -/
def NoLot (K : PySem.W.Frag) (H : Hp) (v : V) : Prop := ∃ T, T ∈ plainT ∧ TyX K H v (.type T)
theorem NoLot.mono {K : PySem.W.Frag} {H H' : Hp} {v : V} (h : NoLot K H v) (s : Same H H') : NoLot K H' v := by
  obtain ⟨T, h1, h2⟩ := h
  exact ⟨T, h1, TyX.mono h2 s⟩
theorem NoLot.ext {K : PySem.W.Frag} {H H' : Hp} {v : V} (h : NoLot K H v) (s : ExtN H H') : NoLot K H' v := by
  obtain ⟨T, h1, h2⟩ := h
  exact ⟨T, h1, TyX.ext h2 s⟩
theorem AnyV.noLot {K : PySem.W.Frag} {H : Hp} {v : V} {o : Option PyData} (h : AnyV K H v o) : NoLot K H v := ⟨_, tyN_in o, h.ty⟩
/-- a lot, or none -/
def LotOr (K : PySem.W.Frag) (C : Addr) (H : Hp) (v : V) : Option (Nat × List Job) → Prop
  | some p => ∃ a, v = .ref a ∧ LotAt K C H a p.1 p.2
  | none => NoLot K H v
theorem LotOr.mono {K : PySem.W.Frag} {C : Addr} {H H' : Hp} {v : V} {o : Option (Nat × List Job)} (h : LotOr K C H v o) (s : Same H H') : LotOr K C H' v o := by
  cases o with
  | none => exact NoLot.mono h s
  | some p => obtain ⟨a, e, L⟩ := h; exact ⟨a, e, L.mono s⟩
theorem LotOr.ext {K : PySem.W.Frag} {C : Addr} {H H' : Hp} {v : V} {o : Option (Nat × List Job)} (h : LotOr K C H v o) (s : ExtN H H') : LotOr K C H' v o := by
  cases o with
  | none => exact NoLot.ext h s
  | some p => obtain ⟨a, e, L⟩ := h; exact ⟨a, e, L.ext s⟩
theorem Raise1.mono {C : Addr} {fld : Str} {v : V} {H H' : Hp} {E : XK} (h : Raise1 C fld v H E) (s : Same H H') : Raise1 C fld v H' E := fun H2 d s2 => h H2 d (s.trans s2)
def spCheckLotX (K : PySem.W.Frag) (C CL : Addr) : Sp := fun vs H Q E => ∃ (v : V) (o : Option (Nat × List Job)), vs = [v] ∧ LotOr K C H v o ∧ (o.isSome = true → Q .non H) ∧ (o = none → Raise1 CL "given" v H E)
theorem inRg_is {o : Option Int} {lo hi : Int} (h : inRg o lo hi = true) : ∃ i, o = some i ∧ lo ≤ i ∧ i ≤ hi := by
  cases o with
  | none => cases h
  | some i => exact ⟨i, rfl, of_decide_eq_true h⟩
end Ts
namespace Ts
open PySem PySem.Spec PyProof.Rows L2 L2H LamX
/-! ## what is heard of lots -/
/-! ## things that are no lots -/
structure NoLotV (K : PySem.W.Frag) (C : Addr) (H : Hp) (v : V) (sh : Str) : Prop where
  no : NoLot K H v
  sv : ShC K C H v sh
  ok : PyData.strOk sh = true
theorem ShC.ext {K : PySem.W.Frag} {C : Addr} {H H' : Hp} {v : V} {t : Str} (h : ShC K C H v t) (s : ExtN H H') : ShC K C H' v t := by
  have lx : ∀ {a : Addr} {t : Str}, LotR K C a H t → LotR K C a H' t := fun ⟨n, js, L, z⟩ => ⟨n, js, L.ext s, z⟩
  cases h with
  | w a =>
    cases a with
    | data a b c d e => exact .w (.data (dp_ext s _ _ a) b c d e)
    | emp a => exact .w (.emp (s _ _ a fun _ z => by cases z))
  | lot a => exact .lot (lx a)
  | tup a b => exact .tup (s _ _ a fun _ z => by cases z) (lx b)
  | lst a b => exact .lst (s _ _ a fun _ z => by cases z) (lx b)
theorem NoLotV.mono {K : PySem.W.Frag} {C : Addr} {H H' : Hp} {v : V} {sh : Str} (h : NoLotV K C H v sh) (s : Same H H') : NoLotV K C H' v sh := ⟨h.no.mono s, h.sv.mono s, h.ok⟩
theorem NoLotV.ext {K : PySem.W.Frag} {C : Addr} {H H' : Hp} {v : V} {sh : Str} (h : NoLotV K C H v sh) (s : ExtN H H') : NoLotV K C H' v sh := ⟨h.no.ext s, h.sv.ext s, h.ok⟩
theorem OddV.noLot {K : PySem.W.Frag} {C : Addr} {H : Hp} {v : V} {o : Option PyData} {sh : Str} (h : OddV K H v o sh) : NoLotV K C H v sh := ⟨h.av.noLot, .w h.sv, h.ok⟩
theorem NoLotV.str {K : PySem.W.Frag} {C : Addr} {H : Hp} {x : Str} (h : Plain x) (hl : x.length ≤ 1000) : NoLotV K C H (.str x) (PyData.str x).shown := by
  obtain ⟨a, b, c, d⟩ := (nice_str (e := 0) h hl).fits (by decide) (by decide)
  exact ⟨⟨"str", by decide, .base (.str x)⟩, .w (.data (.str x) a b c d), text_ok h⟩
theorem strOk_app {x y : Str} (h : PyData.strOk x = true) (g : PyData.strOk y = true) : PyData.strOk (x ++ y) = true := by
  unfold PyData.strOk at h g ⊢
  rw [← Array.all_toList] at h g ⊢
  refine List.all_eq_true.mpr fun c hc => ?_
  have hc' : c ∈ (x.cps ++ y.cps).toList := hc
  rw [Array.toList_append] at hc'
  exact (List.mem_append.mp hc').elim (List.all_eq_true.mp h c) (List.all_eq_true.mp g c)
theorem NoLotV.tup {K : PySem.W.Frag} {C : Addr} {H : Hp} {p a : Addr} {n : Nat} {js : List Job} (h : H p = some (.tup [.ref a])) (L : LotAt K C H a n js) (hn : n ≤ 6) (hl : js.length ≤ 6) : NoLotV K C H (.ref p) (tupleText [reprS js.length n]) :=
  ⟨⟨"tuple", by decide, .base (.tup h)⟩, .tup h ⟨n, js, L, by omega, by omega, rfl⟩, by
    show PyData.strOk (("(" : Str) ++ Str.join ", " [reprS js.length n] ++ (",)" : Str)) = true
    exact strOk_app (strOk_app (by decide +kernel) (plain_ok (plain_repr _ _))) (by decide +kernel)⟩
theorem NoLotV.lst {K : PySem.W.Frag} {C : Addr} {H : Hp} {p a : Addr} {n : Nat} {js : List Job} (h : H p = some (.lst [.ref a])) (L : LotAt K C H a n js) (hn : n ≤ 6) (hl : js.length ≤ 6) : NoLotV K C H (.ref p) (listText [reprS js.length n]) :=
  ⟨⟨"list", by decide, .base (.lst h)⟩, .lst h ⟨n, js, L, by omega, by omega, rfl⟩, by
    show PyData.strOk ((("[" : Str) ++ (("" : String) : Str) ++ reprS js.length n) ++ ("]" : Str)) = true
    exact strOk_app (strOk_app (strOk_app (by decide +kernel) (by decide +kernel)) (plain_ok (plain_repr _ _))) (by decide +kernel)⟩
end Ts
namespace Ts
open PySem PySem.Spec PyProof.Rows L2 L2H LamX
theorem cut_top {xs : List V} {i : Nat} : cutV xs none (some (i : Int)) = xs.take i := by
  unfold cutV
  rw [HT.sIx_none, HT.sIx_nat, List.drop_zero, Nat.sub_zero]
  by_cases h : i ≤ xs.length
  · rw [Nat.min_eq_left h]
  · rw [Nat.min_eq_right (by omega), List.take_of_length_le (Nat.le_refl _), List.take_of_length_le (by omega)]
end Ts
namespace Ts
open PySem PySem.Spec PyProof.Rows L2 L2H LamX
/-- values that are no lots -/
def NoLots (K : PySem.W.Frag) (C : Addr) (H : Hp) (xs : List V) : Prop := ∀ v ∈ xs, ∃ sh, NoLotV K C H v sh
theorem NoLots.nil {K : PySem.W.Frag} {C : Addr} {H : Hp} : NoLots K C H [] := fun v hv => by cases hv
theorem NoLots.cons {K : PySem.W.Frag} {C : Addr} {H : Hp} {v : V} {sh : Str} {xs : List V} (h : NoLotV K C H v sh) (t : NoLots K C H xs) : NoLots K C H (v :: xs) := fun u hu => by
  rcases List.mem_cons.mp hu with rfl | z
  · exact ⟨sh, h⟩
  · exact t u z
end Ts
namespace Ts
open PySem PySem.Spec PyProof.Rows L2 L2H LamX
/-! ## the bag that the later laws draw from -/
/-- at b: where draws come from; the seed is not too great -/
def Bag (H : Hp) (b : Addr) : Prop := ∃ x y z : Int, 0 ≤ x ∧ x < 2147483587 ∧ H b = some (.lst [.int x, .int y, .int z])
theorem Bag.bas {H : Hp} {b : Addr} (h : Bag H b) : Bas H b := by
  obtain ⟨x, y, z, _, _, e⟩ := h
  exact ⟨x, y, z, e⟩
theorem Bag.on {H H' : Hp} {b : Addr} (h : Bag H b) (s : Same H H') : Bag H' b := by
  obtain ⟨x, y, z, h1, h2, e⟩ := h
  exact ⟨x, y, z, h1, h2, s _ _ e⟩
theorem Bag.ext {H H' : Hp} {b : Addr} (h : Bag H b) (s : ExtN H H') : Bag H' b := by
  obtain ⟨x, y, z, h1, h2, e⟩ := h
  exact ⟨x, y, z, h1, h2, s _ _ e fun _ q => nomatch q⟩
theorem Bag.off {H : Hp} {b p : Addr} (h : Bag H b) (hp : H p = none) : p ≠ b := h.bas.off hp
/-! ## the greatest common divisor, in so many steps -/
end Ts
namespace Ts
open PySem PySem.Spec PyProof.Rows L2
/-! ## so many rounds later -/
theorem beg_shift {e p : Nat} {t r : Int} (he : 0 < e) : begI e p (t + e * r) = begI e p t + p * r := by
  unfold begI
  have : (t + e * r - 1) * (p : Int) = (t - 1) * p + (p * r) * e := by
    rw [Int.sub_mul, Int.sub_mul, Int.add_mul, Int.mul_comm (e : Int) r, Int.mul_right_comm r (e : Int) (p : Int), Int.mul_comm r (p : Int)]
    omega
  rw [this, Int.add_mul_ediv_right _ _ (by omega)]
theorem bor_shift {e p : Nat} {t r : Int} (he : 0 < e) : borI e p (t + e * r) = borI e p t + p * r := by
  unfold borI
  have : (t + e * r) * (p : Int) + e - 1 = (t * p + e - 1) + (p * r) * e := by
    rw [Int.add_mul, Int.mul_comm (e : Int) r, Int.mul_right_comm r (e : Int) (p : Int), Int.mul_comm r (p : Int)]
    omega
  rw [this, Int.add_mul_ediv_right _ _ (by omega)]
/-- at the end of a round nothing overlaps -/
theorem over_round {e p : Nat} {t : Int} (he : 0 < e) (h : t % (e : Int) = 0) : overI e p t = false := by
  obtain ⟨k, hk⟩ := Int.dvd_of_emod_eq_zero h
  unfold overI
  refine decide_eq_false ?_
  have h1 : t + 1 = 1 + (e : Int) * k := by omega
  have h2 : t = 0 + (e : Int) * k := by omega
  have h3 : borI e p t = borI e p 0 + p * k := by conv => lhs; rw [h2]
                                                  exact bor_shift he
  rw [h1, beg_shift he, h3]
  have h4 : begI e p 1 = 0 := by unfold begI; simp
  have h5 : borI e p 0 = 0 := by
    unfold borI
    have : (0 : Int) * (p : Int) + e - 1 = (e : Int) - 1 := by omega
    rw [this]
    exact Int.ediv_eq_zero_of_lt (by omega) (by omega)
  omega
/-- the turns of a group, one behind the other -/
def grp (e p : Nat) : Nat → Int → Int
  | 0, t => borI e p t
  | n + 1, t => if overI e p t = true then (if borI e p (t + 1) - begI e p (t + 1) = 3 then borI e p (t + 1) - 1 else grp e p n (t + 1)) else borI e p t
def gborI (e p : Nat) (t : Int) : Int := if 2 * (e : Int) < (p : Int) then 0 else grp e p 16 t
theorem neg_mod_next {e : Nat} {t : Int} (he : 0 < e) (h : t % (e : Int) ≠ 0) : ((-(t + 1)) % (e : Int)).toNat + 1 = ((-t) % (e : Int)).toNat := by
  have a := Int.emod_nonneg (-t) (show (e : Int) ≠ 0 by omega)
  have b := Int.emod_lt_of_pos (-t) (show (0 : Int) < e by omega)
  have c : (-t) % (e : Int) ≠ 0 := fun z => h (by
    obtain ⟨k, hk⟩ := Int.dvd_of_emod_eq_zero z
    exact Int.emod_eq_zero_of_dvd ⟨-k, by rw [Int.mul_neg]; omega⟩)
  have d : (-(t + 1)) % (e : Int) = (-t) % (e : Int) - 1 := by
    have h1 : -(t + 1) = ((-t) % (e : Int) - 1) + e * ((-t) / (e : Int)) := by
      have := Int.emod_add_mul_ediv (-t) (e : Int)
      omega
    rw [h1, Int.add_mul_emod_self_left]
    exact Int.emod_eq_of_lt (by omega) (by omega)
  rw [d]; omega
end Ts
namespace Ts
open PySem PySem.Spec PyProof.Rows L2 L2H LamX
/-! ## what is asked by a lot, a name and a number, given anything -/
/-! ## numbers of turns are not too great -/
theorem mul_le16 {t : Int} {p : Nat} (h0 : 0 ≤ t) (h1 : t ≤ 10 ^ 30 + 16) (hp : p ≤ 16) : 0 ≤ t * (p : Int) ∧ t * (p : Int) ≤ (10 ^ 30 + 16) * 16 := by
  have a : 0 ≤ t * (p : Int) := Int.mul_nonneg h0 (by omega)
  have b : t * (p : Int) ≤ t * 16 := Int.mul_le_mul_of_nonneg_left (by omega) h0
  have c : t * 16 ≤ (10 ^ 30 + 16) * 16 := Int.mul_le_mul_of_nonneg_right h1 (by decide)
  omega
theorem big40 : ((10 : Int) ^ 30 + 16) * 16 + 100 < 10 ^ 40 := by decide
theorem div_between {a : Int} {e : Nat} (h0 : 0 ≤ a) (he : 1 ≤ e) : 0 ≤ a / (e : Int) ∧ a / (e : Int) ≤ a :=
  ⟨Int.ediv_nonneg h0 (by omega), Int.ediv_le_self _ h0⟩
theorem begI_fine {e p : Nat} {t : Int} (g : GoodPart 16 e p) (h1 : 1 ≤ t) (h2 : t ≤ 10 ^ 30) : 0 ≤ begI e p t ∧ begI e p t < 10 ^ 40 := by
  obtain ⟨g1, g2, g3, g4⟩ := g
  obtain ⟨a, b⟩ := mul_le16 (t := t - 1) (p := p) (by omega) (by omega) (by omega)
  obtain ⟨c, d⟩ := div_between a (e := e) (by omega)
  have := big40
  unfold begI
  omega
theorem borI_fine {e p : Nat} {t : Int} (g : GoodPart 16 e p) (h1 : 1 ≤ t) (h2 : t ≤ 10 ^ 30) : 0 ≤ borI e p t ∧ borI e p t + 32 < 10 ^ 40 := by
  obtain ⟨g1, g2, g3, g4⟩ := g
  obtain ⟨a, b⟩ := mul_le16 (t := t) (p := p) (by omega) (by omega) (by omega)
  obtain ⟨c, d⟩ := div_between (a := t * (p : Int) + (e : Int) - 1) (e := e) (by omega) (by omega)
  have := big40
  unfold borI
  omega
end Ts
namespace Ts
open PySem PySem.Spec PyProof.Rows L2 L2H LamX
/-! ## the sum of a tuple of ints -/
/-! ## certificates: () or not -/
def CertV (K : PySem.W.Frag) (H : Hp) (v : V) : Bool → Prop
  | true => ∃ p, v = .ref p ∧ SqT K H p []
  | false => (∃ p xs, v = .ref p ∧ SqT K H p xs ∧ xs ≠ []) ∨ ∃ T, T ∈ ["dict", "NoneType", "bool", "int", "str", "list"] ∧ TyX K H v (.type T)
theorem CertV.mono {K : PySem.W.Frag} {H H' : Hp} {v : V} {e : Bool} (h : CertV K H v e) (s : Same H H') : CertV K H' v e := by
  cases e with
  | true => obtain ⟨p, h1, h2⟩ := h; exact ⟨p, h1, sameT s h2⟩
  | false =>
    rcases h with ⟨p, xs, h1, h2, h3⟩ | ⟨T, h1, h2⟩
    · exact .inl ⟨p, xs, h1, sameT s h2, h3⟩
    · exact .inr ⟨T, h1, TyX.mono h2 s⟩
/-! ## shares that fit a log -/
/-! ## what the checker answers, for a claim with this word -/
theorem place_nat {n j : Nat} (hj : j < n) : ixN n (j : Int) = some j := by
  unfold ixN
  rw [if_pos (by omega), if_pos (by omega), Int.toNat_natCast]
end Ts
namespace Ts
open PySem PySem.Spec PyProof.Rows L2 L2H LamX
/-! ## logs as things -/
/-- a share kept at an address -/
def Shr (H : Hp) (b : Addr) (t : Addr × Nat × Nat) : Prop := t.1 ≠ b ∧ H t.1 = some (.tup [.int (t.2.1 : Int), .int (t.2.2 : Int)]) ∧ GoodPart 1000 t.2.1 t.2.2 ∧ t.2.2 ≤ 14
theorem CertV.empty {K : PySem.W.Frag} {H : Hp} {c : Addr} (h : SqT K H c []) : CertV K H (.ref c) true := ⟨c, rfl, h⟩
theorem Shr.lit {H : Hp} {b a : Addr} {e p : Nat} (n : a ≠ b) (h : H a = some (.tup [.int (e : Int), .int (p : Int)])) (g : GoodPart 1000 e p) (l : p ≤ 14) : Shr H b (a, e, p) := ⟨n, h, g, l⟩
end Ts
namespace Ts
open PySem PySem.Spec PyProof.Rows L2 L2H LamX
/-! ## the later laws' lots -/
def partJ (j : Job) : PyData := partD j.2.1 j.2.2
theorem share_at {K : PySem.W.Frag} {H : Hp} {xs : List V} {js : List Job} (h : DpAll K H xs (js.map partJ)) {i : Nat} {x : V} (e : xs[i]? = some x) :
    ∃ (j : Job) (q : Addr), js[i]? = some j ∧ x = .ref q ∧ SqT K H q [.int (j.2.1 : Int), .int (j.2.2 : Int)] := by
  obtain ⟨d, hd, hv⟩ := h.get e
  rw [List.getElem?_map] at hd
  cases ej : js[i]? with
  | none => rw [ej] at hd; cases hd
  | some j =>
    rw [ej] at hd
    obtain rfl : partJ j = d := Option.some.inj hd
    obtain ⟨q, ys, rfl, hS, hA⟩ := hv.tuple
    obtain ⟨v, w, rfl, hv1, hv2⟩ := hA.two
    cases hv1; cases hv2
    exact ⟨j, q, rfl, rfl, hS⟩
/-- a work kept at an address, its share at another -/
def Wk (H : Hp) (b : Addr) (t : Addr × Addr × Job) : Prop := t.1 ≠ b ∧ H t.1 = some (.tup [.str t.2.2.1, .ref t.2.1]) ∧ t.2.1 ≠ b ∧ H t.2.1 = some (.tup [.int (t.2.2.2.1 : Int), .int (t.2.2.2.2 : Int)])
/-- tuples off b stay -/
def TupB (b : Addr) (H H' : Hp) : Prop := ∀ a xs, a ≠ b → H a = some (.tup xs) → H' a = some (.tup xs)
theorem Wk.step {H H' : Hp} {b : Addr} {t : Addr × Addr × Job} (h : Wk H b t) (s : TupB b H H') : Wk H' b t := ⟨h.1, s _ _ h.1 h.2.1, h.2.2.1, s _ _ h.2.2.1 h.2.2.2⟩
theorem TupB.of {b : Addr} {H H' : Hp} (s : But b H H') : TupB b H H' := fun _ _ n h => s _ _ n h
theorem TupB.trans {b : Addr} {H H' H'' : Hp} (s : TupB b H H') (t : TupB b H' H'') : TupB b H H'' := fun a xs n h => t a xs n (s a xs n h)
theorem TupB.lst {b c : Addr} {H : Hp} {xs : List V} {o : HO} (h : H c = some (.lst xs)) : TupB b H (upd H c o) := fun a ys _ e => by rw [upd_ne (fun z => by rw [z, h] at e; cases e)]; exact e
theorem Wk.dp {K : PySem.W.Frag} {H : Hp} {b : Addr} {t : Addr × Addr × Job} (h : Wk H b t) : Dp K (hid b H) (.ref t.1) (jobD t.2.2) :=
  .tup (SqT.of ((hid_ne h.1).trans h.2.1)) (.cons (.str _) (.cons (.tup (SqT.of ((hid_ne h.2.2.1).trans h.2.2.2)) (.cons (.int _) (.cons (.int _) .nil))) .nil))
theorem Wk.all {K : PySem.W.Frag} {H : Hp} {b : Addr} : ∀ {ws : List (Addr × Addr × Job)}, (∀ t ∈ ws, Wk H b t) → DpAll K (hid b H) (ws.map fun t => V.ref t.1) ((ws.map fun t => t.2.2).map jobD)
  | [], _ => .nil
  | t :: ws, h => .cons (h t List.mem_cons_self).dp (Wk.all fun x hx => h x (List.mem_cons_of_mem _ hx))
end Ts
namespace Ts
open PySem PySem.Spec PyProof.Rows L2 L2H LamX
/-! ## xs[k] read where xs[k] += e -/
def rGetL : V → V → Hp → VK → Prop := fun o i H Q => ∃ (p : Addr) (xs : List V) (k : Nat) (y : V), o = .ref p ∧ i = .int (k : Int) ∧ H p = some (.lst xs) ∧ xs[k]? = some y ∧ Q y H
theorem get_listP {X : Cx} : PGet X rGetL := by
  intro pins s σ H o i ov iv Q I r1 r2 h
  obtain ⟨p, xs, k, y, rfl, rfl, hp, hy, q⟩ := h
  cases r1
  obtain ⟨t, rfl⟩ := r2
  obtain ⟨its, r, pl, hz⟩ := I.list (SqL.of hp)
  obtain ⟨w, ew, rw'⟩ := r.get hy
  have hl := r.length
  have hn := line63
  have hk := (List.getElem?_eq_some_iff.mp hy).1
  exact wpAny_getItem_list pl.isList (by omega) (by omega) (by simpa using ew) ⟨y, H, I, rw', q⟩
/-! ## members of a tick -/
theorem sqt_ty37 {K : PySem.W.Frag} {H : Hp} {a : Addr} {xs : List V} (h : SqT K H a xs) : TyX K H (.ref a) (.type "tuple") := by
  rcases h with (h | ⟨o, h⟩) | ⟨o, its, n, e, c, _⟩
  · exact .base (.tup h)
  · exact .fTuple h
  · exact .kTuple e c
/-- a thing that is perhaps a tuple -/
def ThingS (K : PySem.W.Frag) (H : Hp) (v : V) : Option (List (Option Int)) → Prop
  | some os => ∃ (p : Addr) (xs : List V), v = .ref p ∧ SqT K H p xs ∧ xs.length = os.length ∧ ∀ (i : Nat) (x : V) (o : Option Int), xs[i]? = some x → os[i]? = some o → KindV K H x o
  | none => ∃ T, T ∈ ["int", "bool", "str", "NoneType", "list", "dict"] ∧ TyX K H v (.type T)
theorem ThingAt.s {K : PySem.W.Frag} {H : Hp} {v : V} {t : Option (List (Option Int))} (h : ThingAt K H v t) : ThingS K H v t := by
  cases t with
  | none => exact h
  | some os => obtain ⟨p, xs, h1, h2, h3, h4⟩ := h; exact ⟨p, xs, h1, SqT.of h2, h3, h4⟩
theorem ThingS.mono {K : PySem.W.Frag} {H H' : Hp} {v : V} {t : Option (List (Option Int))} (h : ThingS K H v t) (s : Same H H') : ThingS K H' v t := by
  cases t with
  | none => obtain ⟨T, h1, h2⟩ := h; exact ⟨T, h1, TyX.mono h2 s⟩
  | some os => obtain ⟨p, xs, h1, h2, h3, h4⟩ := h; exact ⟨p, xs, h1, sameT s h2, h3, fun i x o a b => (h4 i x o a b).mono s⟩
/-! ## counts -/
/-! ## ticks had -/
end Ts
namespace Ts
open PySem PySem.Spec PyProof.Rows L2 L2H LamX
/-! ## zip of a tuple and a list -/
/-! ## a certificate that tells the works of each tick -/
abbrev TabT := Option (List (Option (List (Option Int))))
def TabP (K : PySem.W.Frag) (H : Hp) (v : V) : TabT → Prop
  | some rs => ∃ (p : Addr) (xs : List V), v = .ref p ∧ SqT K H p xs ∧ xs.length = rs.length ∧ ∀ (i : Nat) (x : V) (r : Option (List (Option Int))), xs[i]? = some x → rs[i]? = some r → ThingS K H x r
  | none => ∃ T, T ∈ ["int", "bool", "str", "NoneType", "list", "dict"] ∧ TyX K H v (.type T)
theorem TabP.mono {K : PySem.W.Frag} {H H' : Hp} {v : V} {t : TabT} (h : TabP K H v t) (s : Same H H') : TabP K H' v t := by
  cases t with
  | none => obtain ⟨T, h1, h2⟩ := h; exact ⟨T, h1, TyX.mono h2 s⟩
  | some rs => obtain ⟨p, xs, h1, h2, h3, h4⟩ := h; exact ⟨p, xs, h1, sameT s h2, h3, fun i x o a b => (h4 i x o a b).mono s⟩
/-! ## counts that are valid -/
end Ts
namespace Ts
open PySem PySem.Spec PyProof.Rows L2
theorem hu2 {A : Around} (h : A.units + 64 < cLine) : A.in1.in1.units < cLine := by show A.units + 1 + 1 < cLine; omega
/-! ## who is ahead -/
abbrev handsL (n : Nat) (js : List Job) : List Nat := List.replicate (spanN js) n
def crewRows (cs : List Nat) : List (List Int) := cs.map fun c => (membersN c).map fun m : Nat => (m : Int)
/-! ## what is asked -/
/-! ## rows -/
/-! ## the crews of a choice: only the first may be empty -/
end Ts
namespace Ts
open PySem PySem.Spec PyProof.Rows L2
/-! ## the draws of the laws of standings, tables, rules .. -/
def spCell (K : PySem.W.Frag) : Sp := fun vs H Q _ => ∃ (a : Addr) (ns : List Int) (i : Nat), vs = [.ref a, .int i] ∧ SqL K H a (ns.map V.int) ∧ ns.length ≤ 63 ∧ i < 1000 ∧ ∀ (x : Int) (H' : Hp), Same H H' → Q (.int x) H'
def spTakeJ (K : PySem.W.Frag) : Sp := fun vs H Q _ => ∃ (b p : Addr) (xs : List V), vs = [.ref b, .ref p] ∧ Bas H b ∧ SqL K (hid b H) p xs ∧ 0 < xs.length ∧ xs.length ≤ 1000 ∧
  ∀ (v : V) (H' : Hp), v ∈ xs → But b H H' → Bas H' b → Q v H'
/-! ## the menus -/
/-! ## data of tuples and texts alone -/
/-! ## so many rounds later -/
end Ts
namespace Ts
open PySem PySem.Spec PyProof.Rows L2
/-- a drawn lot, and the lot of the package that it makes -/
structure Own (K : PySem.W.Frag) (C : Addr) (H : Hp) (b p q x : Addr) (n : Nat) (js : List Job) : Prop where
  B : Bas H b
  e : H p = some (.tup [.int (n : Int), .ref q])
  d : Dp K (hid b H) (.ref q) (jobsD js)
  L : LotAt K C (hid b H) x n js
theorem Own.step {K : PySem.W.Frag} {C : Addr} {H H' : Hp} {b p q x : Addr} {n : Nat} {js : List Job} (o : Own K C H b p q x n js) (bt : But b H H') (B : Bas H' b) : Own K C H' b p q x n js := by
  have np : p ≠ b := by
    obtain ⟨y, z, u, e⟩ := o.B
    intro h
    have h2 := o.e
    rw [h, e] at h2
    cases h2
  exact ⟨B, bt _ _ np o.e, o.d.mono bt.hid, o.L.mono bt.hid⟩
theorem Own.same {K : PySem.W.Frag} {C : Addr} {H H' : Hp} {b p q x : Addr} {n : Nat} {js : List Job} (o : Own K C H b p q x n js) (s : Same H H') : Own K C H' b p q x n js := o.step (But.of_same s) (o.B.on s)
theorem Own.lot {K : PySem.W.Frag} {C : Addr} {H : Hp} {b p q x : Addr} {n : Nat} {js : List Job} (o : Own K C H b p q x n js) : LotAt K C H x n js := o.L.mono hid_sub
end Ts
namespace Ts
open PySem PySem.Spec PyProof.Rows L2 L2H LamX
/-! ## a value that is a standing -/
def inLH (t : Int) : List Job → List PyData → Bool
  | [], [] => true
  | j :: js, d :: ds => inRg (kindD d) (lowI j.2.1 j.2.2 t) (highI j.2.1 j.2.2 t) && inLH t js ds
  | _, _ => false
def stB (js : List Job) (t : Int) : Option PyData → Bool
  | some (.tuple ds) => inLH t js ds
  | _ => false
/-! ## what refuses -/
/-! ## what is due -/
end Ts
namespace Ts
open PySem PySem.Spec PyProof.Rows L2 L2H LamX
/-! ## data of which the text is sound -/
structure OkF (w e : Nat) (d : PyData) : Prop where
  f : Fine w e d
  ok : PyData.strOk d.shown = true
theorem OkF.mono {w w' e e' : Nat} {d : PyData} (h : OkF w e d) (h1 : w ≤ w') (h2 : e ≤ e') : OkF w' e' d := ⟨h.f.mono h1 h2, h.ok⟩
theorem okf_int {e : Nat} {i : Int} (h0 : -1 ≤ i) (h1 : i < 10 ^ 40) : OkF 140 e (.int i) := by
  by_cases z : i = -1
  · subst z
    exact ⟨⟨by decide +kernel, by decide +kernel, by show (if ((-1 : Int) == 0) = true then 0 else (-1 : Int).natAbs.log2 + 1) ≤ 140; decide +kernel, Nat.zero_le _, rfl⟩, by decide +kernel⟩
  · obtain ⟨n, rfl⟩ := Int.eq_ofNat_of_zero_le (show 0 ≤ i by omega)
    refine ⟨fine_int (by omega) h1, ?_⟩
    have e : (PyData.int ((n : Nat) : Int)).shown = numS n := rfl
    rw [e]
    exact plain_ok (plain_num n)
theorem ok_joinR {S : Str} (hS : PyData.strOk S = true) : ∀ ts : List Str, (∀ t ∈ ts, PyData.strOk t = true) → PyData.strOk (Str.join S ts) = true := fun ts h => by
  unfold PyData.strOk
  rw [← Array.all_toList]
  refine List.all_eq_true.mpr fun c hc => decide_eq_true ?_
  have hc' : c ∈ TL.tl (Str.join S ts) := hc
  rw [TL.tl_join] at hc'
  have sm : ∀ {t : Str}, PyData.strOk t = true → ∀ c ∈ TL.tl t, c < 0x110000 := fun ht c hc => strOk_all ht c hc
  rcases mem_joinL hc' with h2 | ⟨u, hu, h2⟩
  · exact sm hS c h2
  · obtain ⟨t, ht, rfl⟩ := List.mem_map.mp hu
    exact sm (h t ht) c h2
theorem shownAll_ok {w e : Nat} {ds : List PyData} (h : ∀ d ∈ ds, OkF w e d) : ∀ t ∈ PyData.shownAll ds, PyData.strOk t = true := fun t ht => by
  rw [shownAll_eq_map] at ht
  obtain ⟨d, hd, rfl⟩ := List.mem_map.mp ht
  exact (h d hd).ok
theorem okf_tup {w e : Nat} {ds : List PyData} (h : ∀ d ∈ ds, OkF w e d) : OkF ((w + 1) * ds.length) (e + 1) (.tuple ds) := by
  refine ⟨(fine_all fun d hd => (h d hd).f).tup, ?_⟩
  have e : (PyData.tuple ds).shown = tupleText (PyData.shownAll ds) := by simp only [PyData.shown]
  rw [e]
  unfold tupleText
  refine strOk_app (strOk_app (by decide +kernel) (ok_joinR (by decide +kernel) _ (shownAll_ok h))) ?_
  split <;> decide +kernel
theorem OkF.odd {K : PySem.W.Frag} {H : Hp} {v : V} {w e : Nat} {d : PyData} (f : OkF w e d) (h : Dp K H v d) (hw : w ≤ 300000) (he : e < 60) (hs : shortV (some d)) : OddV K H v (some d) d.shown := by
  obtain ⟨a, b, c, g⟩ := f.f.fits hw he
  exact OddV.of h a b c g f.ok hs
theorem okf_ints {l : List Int} (h : ∀ i ∈ l, -1 ≤ i ∧ i < 10 ^ 40) : ∀ d ∈ l.map PyData.int, OkF 140 0 d := fun d hd => by
  obtain ⟨i, hi, rfl⟩ := List.mem_map.mp hd
  exact okf_int (h i hi).1 (h i hi).2
theorem OddV.ints {K : PySem.W.Frag} {H : Hp} {q : Addr} {l : List Int} (h : SqT K H q (l.map V.int)) (hl : l.length ≤ 100) (hr : ∀ i ∈ l, -1 ≤ i ∧ i < 10 ^ 40) : OddV K H (.ref q) (some (rowD l)) (rowD l).shown :=
  (okf_tup (okf_ints hr)).odd (.tup h (.ints l)) (by rw [List.length_map]; omega) (by decide) (show (l.map PyData.int).length ≤ 100 by rw [List.length_map]; exact hl)
/-! ## a row that may be odd, and the law's own look at it -/
/-! ## what is right comes back -/
/-! ## one of two values, the rest once -/
end Ts
namespace Ts
open PySem PySem.Spec PyProof.Rows L2
/-! ## the law's own look at standings: near, more, the sets of hands -/
def plusR (r s : List Int) : List Int := (List.range r.length).map fun k => r.getD k 0 + (if ((k : Int) ∈ s) then 1 else 0)
def subsL : Nat → List (List Int)
  | 0 => [[]]
  | n + 1 => subsL n ++ (subsL n).map (· ++ [(n : Int)])
def setsL (n m : Nat) : List (List Int) := (subsL n).filter fun s => decide (s.length ≤ m)
/-! ## rows that lie as tuples of their own -/
inductive RowT (H : Hp) : List V → List (List Int) → Prop
  | nil : RowT H [] []
  | cons {a : Addr} {r : List Int} {ys : List V} {rows : List (List Int)} (h : H a = some (.tup (r.map V.int))) (t : RowT H ys rows) : RowT H (.ref a :: ys) (r :: rows)
theorem RowT.mono {H H' : Hp} {ys : List V} {rows : List (List Int)} (h : RowT H ys rows) (s : Same H H') : RowT H' ys rows := by
  induction h with
  | nil => exact .nil
  | cons a _ ih => exact .cons (s _ _ a) ih
theorem RowT.append {H : Hp} {ys zs : List V} {rows more : List (List Int)} (h : RowT H ys rows) (g : RowT H zs more) : RowT H (ys ++ zs) (rows ++ more) := by
  induction h with
  | nil => exact g
  | cons a _ ih => exact .cons a ih
theorem RowT.snoc {H : Hp} {ys : List V} {rows : List (List Int)} {a : Addr} {r : List Int} (h : RowT H ys rows) (g : H a = some (.tup (r.map V.int))) : RowT H (ys ++ [.ref a]) (rows ++ [r]) := h.append (.cons g .nil)
theorem RowT.length {H : Hp} {ys : List V} {rows : List (List Int)} (h : RowT H ys rows) : ys.length = rows.length := by
  induction h with
  | nil => rfl
  | cons a _ ih => rw [List.length_cons, List.length_cons, ih]
theorem RowT.get {H : Hp} {ys : List V} {rows : List (List Int)} (h : RowT H ys rows) : ∀ {i : Nat} {y : V}, ys[i]? = some y → ∃ (a : Addr) (r : List Int), y = .ref a ∧ rows[i]? = some r ∧ H a = some (.tup (r.map V.int)) := by
  induction h with
  | nil => intro i y e; simp at e
  | cons a _ ih =>
    intro i y e
    cases i with
    | zero => cases e; exact ⟨_, _, rfl, rfl, a⟩
    | succ i => exact ih (by simpa using e)
theorem RowT.dp {K : PySem.W.Frag} {H : Hp} {ys : List V} {rows : List (List Int)} (h : RowT H ys rows) : DpAll K H ys (rows.map rowD) := by
  induction h with
  | nil => exact .nil
  | cons a _ ih => exact .cons (.tup (SqT.of a) (.ints _)) ih
/-! ## every standing at a moment -/
end Ts
namespace Ts
open PySem PySem.Spec PyProof.Rows L2
/-! ## the law's own living standings, as dicts with the rows as keys -/
def keyR (r : List Int) : List L2.Key := r.map Sum.inl
def rowsK (rows : List (List Int)) : List (List L2.Key × V) := rows.map fun r => (keyR r, .bl true)
/-- what lives k ticks before the end of a round, by the law's own walk -/
def livR (js : List Job) (sets : List (List Int)) : Nat → List (List Int)
  | 0 => rowsR js (spanN js : Int)
  | k + 1 => (rowsR js ((spanN js : Int) - ((k + 1 : Nat) : Int))).filter fun r => sets.any fun s => decide (plusR r s ∈ livR js sets k)
/-- from the first moment of the round -/
def livT (js : List Job) (sets : List (List Int)) : List (List (List Int)) := (List.range (spanN js + 1)).map fun m => livR js sets (spanN js - m)
def livJ (js : List Job) (sets : List (List Int)) : List (List (List Int)) := if livR js sets (spanN js) = [] then List.replicate (spanN js + 1) [] else livT js sets
/-- the dict at a holds the rows -/
def LivAt (H : Hp) (v : V) (rows : List (List Int)) : Prop := ∃ a, v = .ref a ∧ H a = some (.dT (rowsK rows))
inductive LivAll (H : Hp) : List V → List (List (List Int)) → Prop
  | nil : LivAll H [] []
  | cons {v : V} {rows : List (List Int)} {vs : List V} {rs : List (List (List Int))} (h : LivAt H v rows) (t : LivAll H vs rs) : LivAll H (v :: vs) (rows :: rs)
theorem LivAll.mono {H H' : Hp} {vs : List V} {rs : List (List (List Int))} (h : LivAll H vs rs) (s : Same H H') : LivAll H' vs rs := by
  induction h with
  | nil => exact .nil
  | cons a _ ih => obtain ⟨x, e, g⟩ := a; exact .cons ⟨x, e, s _ _ g⟩ ih
/-- pairs (row, True) of a list -/
inductive PairT (H : Hp) : List Addr → List (List L2.Key × Addr × V) → List (List Int) → Prop
  | nil : PairT H [] [] []
  | cons {p a : Addr} {r : List Int} {ps : List Addr} {qs : List (List L2.Key × Addr × V)} {rows : List (List Int)} (h : H p = some (.tup [.ref a, .bl true])) (g : H a = some (.tup (r.map V.int))) (t : PairT H ps qs rows) : PairT H (p :: ps) ((keyR r, a, .bl true) :: qs) (r :: rows)
theorem PairT.mono {H H' : Hp} {ps : List Addr} {qs : List (List L2.Key × Addr × V)} {rows : List (List Int)} (h : PairT H ps qs rows) (s : Same H H') : PairT H' ps qs rows := by
  induction h with
  | nil => exact .nil
  | cons a b _ ih => exact .cons (s _ _ a) (s _ _ b) ih
theorem PairT.snoc {H : Hp} {ps : List Addr} {qs : List (List L2.Key × Addr × V)} {rows : List (List Int)} {p a : Addr} {r : List Int} (h : PairT H ps qs rows) (e : H p = some (.tup [.ref a, .bl true])) (g : H a = some (.tup (r.map V.int))) :
    PairT H (ps ++ [p]) (qs ++ [(keyR r, a, .bl true)]) (rows ++ [r]) := by
  induction h with
  | nil => exact .cons e g .nil
  | cons a b _ ih => exact .cons a b ih
/-- which rows live k ticks before the end, row by row -/
def goB (js : List Job) (sets : List (List Int)) (k : Nat) (r : List Int) : Bool := sets.any fun s => decide (plusR r s ∈ livR js sets k)
theorem livR_succ (js : List Job) (sets : List (List Int)) (k : Nat) : livR js sets (k + 1) = (rowsR js ((spanN js : Int) - ((k + 1 : Nat) : Int))).filter (goB js sets k) := rfl
theorem LivAll.length {H : Hp} {vs : List V} {rs : List (List (List Int))} (h : LivAll H vs rs) : vs.length = rs.length := by
  induction h with
  | nil => rfl
  | cons a _ ih => rw [List.length_cons, List.length_cons, ih]
theorem LivAll.snoc {H : Hp} {vs : List V} {rs : List (List (List Int))} {v : V} {rows : List (List Int)} (h : LivAll H vs rs) (g : LivAt H v rows) : LivAll H (vs ++ [v]) (rs ++ [rows]) := by
  induction h with
  | nil => exact .cons g .nil
  | cons a _ ih => exact .cons a ih
end Ts
namespace Ts
/-! ## crews as rows of truths, the lowest first -/
def numB : List Bool → Nat
  | [] => 0
  | b :: bs => b.toNat + 2 * numB bs
theorem numB_app : ∀ (xs ys : List Bool), numB (xs ++ ys) = numB xs + 2 ^ xs.length * numB ys
  | [], ys => by simp [numB]
  | x :: xs, ys => by
    show x.toNat + 2 * numB (xs ++ ys) = x.toNat + 2 * numB xs + 2 ^ (xs.length + 1) * numB ys
    rw [numB_app xs ys, Nat.pow_succ, Nat.mul_add, Nat.mul_comm (2 ^ xs.length) 2, Nat.mul_assoc]; omega
theorem numB_snoc (xs : List Bool) (b : Bool) : numB (xs ++ [b]) = numB xs + 2 ^ xs.length * b.toNat := by
  rw [numB_app]; simp [numB]
theorem numB_lt : ∀ bs : List Bool, numB bs < 2 ^ bs.length
  | [] => by decide
  | b :: bs => by
    have := numB_lt bs
    show b.toNat + 2 * numB bs < 2 ^ (bs.length + 1)
    have hb : b.toNat ≤ 1 := Bool.toNat_le b
    rw [Nat.pow_succ]; omega
theorem numB_bit : ∀ (bs : List Bool) (i : Nat), (numB bs).testBit i = bs.getD i false
  | [], i => by simp [numB]
  | b :: bs, 0 => by
    show (b.toNat + 2 * numB bs).testBit 0 = b
    rw [Nat.testBit_zero]
    cases b <;> simp <;> omega
  | b :: bs, i + 1 => by
    show (b.toNat + 2 * numB bs).testBit (i + 1) = bs.getD i false
    rw [Nat.testBit_succ, ← numB_bit bs i]
    congr 1
    cases b <;> simp <;> omega
/-- every number below is such a row -/
def bitsN (n a : Nat) : List Bool := (List.range n).map a.testBit
theorem bitsN_len (n a : Nat) : (bitsN n a).length = n := by simp [bitsN]
theorem bitsN_num {n a : Nat} (h : a < 2 ^ n) : numB (bitsN n a) = a := by
  refine Nat.eq_of_testBit_eq fun i => ?_
  rw [numB_bit, List.getD_eq_getElem?_getD]
  unfold bitsN
  rw [List.getElem?_map]
  by_cases hi : i < n
  · rw [List.getElem?_range hi]; rfl
  · rw [List.getElem?_eq_none (by rw [List.length_range]; omega)]
    exact (Nat.testBit_lt_two_pow (Nat.lt_of_lt_of_le h (Nat.pow_le_pow_right (by decide) (by omega)))).symm
theorem numB_mid (xs ys : List Bool) : numB (xs ++ true :: ys) = numB (xs ++ false :: ys) + 2 ^ xs.length := by
  rw [numB_app, numB_app]
  show numB xs + 2 ^ xs.length * (1 + 2 * numB ys) = numB xs + 2 ^ xs.length * (0 + 2 * numB ys) + 2 ^ xs.length
  rw [Nat.mul_add, Nat.mul_add]; omega
/-! ### crews as numbers -/
theorem crew_posL {α : Type} (p : α → Bool) : ∀ (l : List α) (i : Nat), crewN (posL p l i) = 2 ^ i * numB (l.map p)
  | [], i => by simp [posL, crewN, numB]
  | x :: r, i => by
    have ih := crew_posL p r (i + 1)
    unfold posL
    rw [List.map_cons]
    cases hp : p x with
    | true =>
      rw [if_pos rfl]
      show 2 ^ i + crewN (posL p r (i + 1)) = 2 ^ i * (1 + 2 * numB (r.map p))
      rw [ih, Nat.pow_succ, Nat.mul_add, Nat.mul_one, Nat.mul_assoc]
    | false =>
      rw [if_neg (by decide), ih]
      show _ = 2 ^ i * (0 + 2 * numB (r.map p))
      rw [Nat.pow_succ, Nat.zero_add, Nat.mul_assoc]
theorem crew_posL0 {α : Type} (p : α → Bool) (l : List α) : crewN (posL p l 0) = numB (l.map p) := by rw [crew_posL]; simp
/-! ### sets of numbers as a number -/
theorem crew_lt : ∀ (ms : List Nat) (b : Nat), ms.Pairwise (· < ·) → (∀ m ∈ ms, m < b) → crewN ms < 2 ^ b := by
  intro ms
  induction hn : ms.length generalizing ms with
  | zero =>
    intro b _ _
    rw [List.length_eq_zero_iff.mp hn]
    exact Nat.two_pow_pos b
  | succ n ih =>
    intro b hp hb
    have hne : ms ≠ [] := fun e => by rw [e] at hn; cases hn
    obtain ⟨ys, y, rfl⟩ : ∃ ys y, ms = ys ++ [y] := ⟨ms.dropLast, ms.getLast hne, (List.dropLast_concat_getLast hne).symm⟩
    have hl : ys.length = n := by simpa using hn
    obtain ⟨p1, _, p3⟩ := List.pairwise_append.mp hp
    have h1 := ih ys hl y p1 fun m hm => p3 m hm y (by simp)
    have hy := hb y (by simp)
    rw [crew_snoc]
    have : 2 ^ (y + 1) ≤ 2 ^ b := Nat.pow_le_pow_right (by decide) hy
    rw [Nat.pow_succ] at this
    omega
theorem crew_bit : ∀ (ms : List Nat) (a : Nat), ms.Pairwise (· < ·) → (crewN ms).testBit a = decide (a ∈ ms) := by
  intro ms
  induction hn : ms.length generalizing ms with
  | zero =>
    intro a _
    rw [List.length_eq_zero_iff.mp hn]
    simp [crewN]
  | succ n ih =>
    intro a hp
    have hne : ms ≠ [] := fun e => by rw [e] at hn; cases hn
    obtain ⟨ys, y, rfl⟩ : ∃ ys y, ms = ys ++ [y] := ⟨ms.dropLast, ms.getLast hne, (List.dropLast_concat_getLast hne).symm⟩
    have hl : ys.length = n := by simpa using hn
    obtain ⟨p1, _, p3⟩ := List.pairwise_append.mp hp
    have lo : ∀ m ∈ ys, m < y := fun m hm => p3 m hm y (by simp)
    have h1 := crew_lt ys y p1 lo
    have h2 := ih ys hl a p1
    rw [crew_snoc, Nat.add_comm]
    rcases Nat.lt_trichotomy a y with c | c | c
    · rw [Nat.testBit_two_pow_add_gt c, h2]
      exact decide_eq_decide.mpr (by simp; omega)
    · subst c
      rw [Nat.testBit_two_pow_add_eq, Nat.testBit_lt_two_pow h1]
      simp
    · have h3 : 2 ^ y + crewN ys < 2 ^ a := by
        have : 2 ^ (y + 1) ≤ 2 ^ a := Nat.pow_le_pow_right (by decide) c
        rw [Nat.pow_succ] at this
        omega
      rw [Nat.testBit_lt_two_pow h3]
      refine (decide_eq_false fun z => ?_).symm
      rcases List.mem_append.mp z with z | z
      · have := lo a z; omega
      · have : a = y := by simpa using z
        omega
theorem subs_lt (n : Nat) {w : List Nat} (h : w ∈ subsN n) {p : Nat} (hp : p ∈ w) : p < 2 ^ n := (subs_in n w h).2 p hp
theorem subs_asc : ∀ n, ∀ w ∈ subsN n, w.Pairwise (· < ·)
  | 0, w, h => by
    have e : w = [0] := by simpa [subsN] using h
    subst e
    simp
  | n + 1, w, h => by
    rcases List.mem_append.mp h with h | h
    · exact subs_asc n w h
    · obtain ⟨u, hu, rfl⟩ := List.mem_map.mp h
      have ih := subs_asc n u hu
      refine List.pairwise_append.mpr ⟨ih, List.pairwise_map.mpr (ih.imp fun {a b} z => by omega), fun a ha b hb => ?_⟩
      obtain ⟨c, _, rfl⟩ := List.mem_map.mp hb
      have := subs_lt n hu ha
      omega
theorem subs_getD (n c : Nat) (h : c < 2 ^ n) : (subsN n).getD c [] ∈ subsN n := by
  have hl : c < (subsN n).length := by rw [subs_len]; exact h
  rw [List.getD_eq_getElem?_getD, List.getElem?_eq_getElem hl]
  exact List.getElem_mem hl
theorem subs_low {n c : Nat} (h : c < 2 ^ n) : (subsN (n + 1)).getD c [] = (subsN n).getD c [] := by
  rw [subsN, List.getD_eq_getElem?_getD, List.getElem?_append_left (by rw [subs_len]; exact h), ← List.getD_eq_getElem?_getD]
theorem subs_high {n c : Nat} (h : c < 2 ^ n) : (subsN (n + 1)).getD (c + 2 ^ n) [] = (subsN n).getD c [] ++ ((subsN n).getD c []).map (· + 2 ^ n) := by
  have hl : c < (subsN n).length := by rw [subs_len]; exact h
  rw [subsN, List.getD_eq_getElem?_getD, List.getElem?_append_right (by rw [subs_len]; omega), List.getElem?_map, subs_len, Nat.add_sub_cancel, List.getD_eq_getElem?_getD, List.getElem?_eq_getElem hl]; rfl
/-- one crew within another -/
def subB : List Bool → List Bool → Bool
  | [], [] => true
  | c :: cs, p :: ps => (!p || c) && subB cs ps
  | _, _ => false
theorem subB_len : ∀ {cs ps : List Bool}, subB cs ps = true → cs.length = ps.length
  | [], [], _ => rfl
  | c :: cs, p :: ps, h => by
    have := subB_len (Bool.and_eq_true_iff.mp h).2
    simp [this]
  | [], _ :: _, h => by cases h
  | _ :: _, [], h => by cases h
theorem subB_snoc : ∀ {cs ps : List Bool} (c p : Bool), cs.length = ps.length → subB (cs ++ [c]) (ps ++ [p]) = (subB cs ps && (!p || c))
  | [], [], c, p, _ => by simp [subB]
  | d :: cs, q :: ps, c, p, h => by
    show ((!q || d) && subB (cs ++ [c]) (ps ++ [p])) = (((!q || d) && subB cs ps) && (!p || c))
    rw [subB_snoc c p (by simpa using h), Bool.and_assoc]
  | [], _ :: _, _, _, h => by cases h
  | _ :: _, [], _, _, h => by cases h
theorem snoc_of {α : Type} {n : Nat} {l : List α} (h : l.length = n + 1) : ∃ ys y, l = ys ++ [y] ∧ ys.length = n := by
  have hne : l ≠ [] := fun e => by rw [e] at h; cases h
  exact ⟨l.dropLast, l.getLast hne, (List.dropLast_concat_getLast hne).symm, by rw [List.length_dropLast, h]; rfl⟩
theorem subs_mem : ∀ (n : Nat) (cs ps : List Bool), cs.length = n → ps.length = n → (numB ps ∈ (subsN n).getD (numB cs) [] ↔ subB cs ps = true)
  | 0, cs, ps, h1, h2 => by
    rw [List.length_eq_zero_iff.mp h1, List.length_eq_zero_iff.mp h2]
    simp [numB, subsN, subB]
  | n + 1, cs, ps, h1, h2 => by
    obtain ⟨cs, c, rfl, k1⟩ := snoc_of h1
    obtain ⟨ps, p, rfl, k2⟩ := snoc_of h2
    have ih := subs_mem n cs ps k1 k2
    have lc : numB cs < 2 ^ n := by have := numB_lt cs; rwa [k1] at this
    have lp : numB ps < 2 ^ n := by have := numB_lt ps; rwa [k2] at this
    have inn := subs_getD n _ lc
    rw [subB_snoc c p (k1.trans k2.symm), numB_snoc, numB_snoc, k1, k2]
    cases c with
    | false =>
      rw [show numB cs + 2 ^ n * false.toNat = numB cs by simp, subs_low lc]
      cases p with
      | false => rw [show numB ps + 2 ^ n * false.toNat = numB ps by simp, ih]; simp
      | true =>
        rw [show numB ps + 2 ^ n * true.toNat = numB ps + 2 ^ n by simp]
        constructor
        · intro z
          have := subs_lt n inn z
          omega
        · intro z; simp at z
    | true =>
      rw [show numB cs + 2 ^ n * true.toNat = numB cs + 2 ^ n by simp, subs_high lc, List.mem_append]
      cases p with
      | false =>
        rw [show numB ps + 2 ^ n * false.toNat = numB ps by simp, ih]
        constructor
        · rintro (z | z)
          · rw [z]; rfl
          · obtain ⟨u, _, e⟩ := List.mem_map.mp z
            omega
        · intro z; left; simpa using z
      | true =>
        rw [show numB ps + 2 ^ n * true.toNat = numB ps + 2 ^ n by simp]
        constructor
        · rintro (z | z)
          · have := subs_lt n inn z
            omega
          · obtain ⟨u, hu, e⟩ := List.mem_map.mp z
            have : u = numB ps := by omega
            rw [this] at hu
            rw [ih.mp hu]; rfl
        · intro z
          right
          exact List.mem_map.mpr ⟨_, ih.mpr (by simpa using z), rfl⟩
theorem poss_bit {n : Nat} {cs ps : List Bool} (h1 : cs.length = n) (h2 : ps.length = n) : (possN n (numB cs)).testBit (numB ps) = subB cs ps := by
  have lc : numB cs < 2 ^ n := by have := numB_lt cs; rwa [h1] at this
  unfold possN
  rw [crew_bit _ _ (subs_asc n _ (subs_getD n _ lc))]
  have := subs_mem n cs ps h1 h2
  cases e : subB cs ps with
  | true => exact decide_eq_true (this.mpr e)
  | false => exact decide_eq_false fun z => by rw [this.mp z] at e; cases e
theorem poss_big {n : Nat} {c a : Nat} (h : c < 2 ^ n) (ha : (possN n c).testBit a = true) : a < 2 ^ n := by
  unfold possN at ha
  rw [crew_bit _ _ (subs_asc n _ (subs_getD n _ h))] at ha
  exact subs_lt n (subs_getD n _ h) (of_decide_eq_true ha)
theorem full_mem : ∀ (n a : Nat), a ∈ (subsN n).getD (2 ^ n - 1) [] ↔ a < 2 ^ n
  | 0, a => by simp [subsN]; 
  | n + 1, a => by
    have h0 := Nat.two_pow_pos n
    have e : 2 ^ (n + 1) - 1 = (2 ^ n - 1) + 2 ^ n := by rw [Nat.pow_succ]; omega
    have ih := full_mem n
    rw [e, subs_high (by omega), List.mem_append, ih, Nat.pow_succ]
    constructor
    · rintro (z | z)
      · omega
      · obtain ⟨u, hu, rfl⟩ := List.mem_map.mp z
        have := (ih u).mp hu
        omega
    · intro z
      by_cases c : a < 2 ^ n
      · exact .inl c
      · exact .inr (List.mem_map.mpr ⟨a - 2 ^ n, (ih _).mpr (by omega), by omega⟩)
theorem na_bit (n i a : Nat) : (notAheadN n i).testBit a = (decide (a < 2 ^ n) && !a.testBit i) := by
  have h0 := Nat.two_pow_pos n
  unfold notAheadN
  have asc := (subs_asc n _ (subs_getD n (2 ^ n - 1) (by omega))).filter (p := fun a => a / 2 ^ i % 2 == 0)
  rw [crew_bit _ _ asc]
  have : a ∈ ((subsN n).getD (2 ^ n - 1) []).filter (fun a => a / 2 ^ i % 2 == 0) ↔ (a < 2 ^ n ∧ a / 2 ^ i % 2 = 0) := by
    rw [List.mem_filter, full_mem]; simp
  rw [Nat.testBit_eq_decide_div_mod_eq]
  by_cases c : a < 2 ^ n
  · rw [decide_eq_true c]
    by_cases d : a / 2 ^ i % 2 = 0
    · rw [decide_eq_true (this.mpr ⟨c, d⟩)]
      simp [d]
    · rw [decide_eq_false fun z => d (this.mp z).2]
      have : a / 2 ^ i % 2 = 1 := by omega
      simp [this]
  · rw [decide_eq_false c, decide_eq_false fun z => c (this.mp z).1]; rfl
/-! ### one work taken back -/
theorem sub_bit {a i : Nat} (h : 2 ^ i ≤ a) : (a - 2 ^ i).testBit i = !a.testBit i := by
  have e : a = 2 ^ i + (a - 2 ^ i) := by omega
  have := Nat.testBit_two_pow_add_eq (a - 2 ^ i) i
  rw [← e] at this
  rw [this]; simp
theorem step_bit {n grown given idle : Nat} {xs ys : List Bool} {v : Bool} (hn : xs.length + 1 + ys.length = n) :
    (stepN grown xs.length (notAheadN n xs.length) given idle).testBit (numB (xs ++ v :: ys)) =
      if grown.testBit xs.length = true then (given.testBit (numB (xs ++ v :: ys)) || (v && idle.testBit (numB (xs ++ false :: ys)))) else (idle.testBit (numB (xs ++ v :: ys)) || (!v && given.testBit (numB (xs ++ true :: ys)))) := by
  have bitv : ∀ b : Bool, (numB (xs ++ b :: ys)).testBit xs.length = b := fun b => by
    rw [numB_bit, List.getD_eq_getElem?_getD, List.getElem?_append_right (Nat.le_refl _), Nat.sub_self]; rfl
  have big : ∀ b : Bool, numB (xs ++ b :: ys) < 2 ^ n := fun b => by
    have := numB_lt (xs ++ b :: ys)
    rw [List.length_append, List.length_cons] at this
    rwa [show xs.length + (ys.length + 1) = n by omega] at this
  have mid := numB_mid xs ys
  have bf := bitv false
  have gb : grown.testBit xs.length = decide (grown / 2 ^ xs.length % 2 = 1) := Nat.testBit_eq_decide_div_mod_eq
  unfold stepN
  rw [gb]
  by_cases g : grown / 2 ^ xs.length % 2 = 1
  · rw [if_pos g, if_pos (decide_eq_true g), Nat.testBit_or, Nat.testBit_mul_two_pow, Nat.testBit_and, na_bit]
    congr 1
    cases v with
    | true =>
      rw [mid, Nat.add_sub_cancel, decide_eq_true (show 2 ^ xs.length ≤ numB (xs ++ false :: ys) + 2 ^ xs.length by omega), decide_eq_true (big false), bf]
      simp
    | false =>
      by_cases c : 2 ^ xs.length ≤ numB (xs ++ false :: ys)
      · rw [sub_bit c, bf]
        simp
      · rw [decide_eq_false c]; rfl
  · rw [if_neg g, if_neg (fun z => g (of_decide_eq_true z)), Nat.testBit_or, Nat.testBit_and, Nat.testBit_div_two_pow, na_bit, decide_eq_true (big v), bitv v]
    congr 1
    cases v with
    | true => simp
    | false => rw [← mid]; simp
/-! ### all works taken back -/
/-- b: who is ahead behind the tick; a: ahead of it; s: who has a hand; g: whose lower number grows -/
def relB : List Bool → List Bool → List Bool → List Bool → Prop
  | g :: gs, a :: as, s :: ss, b :: bs => b.toNat + g.toNat = a.toNat + s.toNat ∧ relB gs as ss bs
  | [], [], [], [] => True
  | _, _, _, _ => False
def cntB (ss : List Bool) : Nat := (ss.filter id).length
theorem cntB_cons (s : Bool) (ss : List Bool) : cntB (s :: ss) = s.toNat + cntB ss := by
  unfold cntB
  cases s <;> simp <;> omega
theorem relB_len : ∀ {gs as ss bs : List Bool}, relB gs as ss bs → as.length = gs.length ∧ ss.length = gs.length ∧ bs.length = gs.length
  | [], [], [], [], _ => ⟨rfl, rfl, rfl⟩
  | g :: gs, a :: as, s :: ss, b :: bs, h => by
    obtain ⟨h1, h2, h3⟩ := relB_len h.2
    exact ⟨by simp [h1], by simp [h2], by simp [h3]⟩
  | [], [], [], _ :: _, h => h.elim
  | [], [], _ :: _, _, h => h.elim
  | [], _ :: _, _, _, h => h.elim
  | _ :: _, [], _, _, h => h.elim
  | _ :: _, _ :: _, [], _, h => h.elim
  | _ :: _, _ :: _, _ :: _, [], h => h.elim
theorem pair_at (found : List Nat) (f : Nat → Nat → Nat) (f0 : f 0 0 = 0) (k : Nat) : ((pairN found).map fun q => f q.2 q.1).getD k 0 = f (if k = 0 then 0 else found.getD (k - 1) 0) (found.getD k 0) := by
  unfold pairN
  rw [List.getD_eq_getElem?_getD, List.getElem?_map]
  by_cases h : k < found.length + 1
  · have e1 : (found ++ [0])[k]? = some (found.getD k 0) := by
      by_cases c : k < found.length
      · rw [List.getElem?_append_left c, List.getD_eq_getElem?_getD, List.getElem?_eq_getElem c]; rfl
      · have : k = found.length := by omega
        subst this
        rw [List.getElem?_append_right (Nat.le_refl _), List.getD_eq_getElem?_getD, List.getElem?_eq_none (Nat.le_refl _), Nat.sub_self]; rfl
    have e2 : (0 :: found)[k]? = some (if k = 0 then 0 else found.getD (k - 1) 0) := by
      cases k with
      | zero => rfl
      | succ k =>
        rw [if_neg (by omega), List.getElem?_cons_succ, Nat.add_sub_cancel, List.getD_eq_getElem?_getD, List.getElem?_eq_getElem (show k < found.length by omega)]; rfl
    have e3 : ((found ++ [0]).zip (0 :: found))[k]? = some (found.getD k 0, if k = 0 then 0 else found.getD (k - 1) 0) := List.getElem?_zip_eq_some.mpr ⟨e1, e2⟩
    rw [e3]; rfl
  · have e3 : ((found ++ [0]).zip (0 :: found))[k]? = none := List.getElem?_eq_none (by rw [List.length_zip, List.length_append, List.length_cons, List.length_cons]; simp; omega)
    rw [e3]
    show 0 = _
    rw [if_neg (by omega), List.getD_eq_getElem?_getD, List.getD_eq_getElem?_getD, List.getElem?_eq_none (by omega), List.getElem?_eq_none (by omega)]
    exact f0.symm
theorem step_zero (grown i o : Nat) : stepN grown i o 0 0 = 0 := by
  unfold stepN
  split <;> simp
theorem found_bit (n grown : Nat) : ∀ (ys gs xs : List Bool) (found : List Nat) (k : Nat), xs.length + ys.length = n → gs.length = ys.length → (∀ i, i < gs.length → grown.testBit (xs.length + i) = gs.getD i false) →
    (((foundN grown ((List.range' xs.length ys.length).map (notAheadN n)) xs.length found).getD k 0).testBit (numB (xs ++ ys)) = true ↔
      ∃ ss bs, relB gs ys ss bs ∧ cntB ss ≤ k ∧ (found.getD (k - cntB ss) 0).testBit (numB (xs ++ bs)) = true) := by
  intro ys
  induction ys with
  | nil =>
    intro gs xs found k hn hg hb
    have : gs = [] := List.length_eq_zero_iff.mp hg
    subst this
    show (found.getD k 0).testBit (numB (xs ++ [])) = true ↔ _
    constructor
    · intro z; exact ⟨[], [], trivial, Nat.zero_le _, z⟩
    · rintro ⟨ss, bs, r, c, z⟩
      obtain ⟨_, h2, h3⟩ := relB_len r
      have e1 : ss = [] := List.length_eq_zero_iff.mp h2
      have e2 : bs = [] := List.length_eq_zero_iff.mp h3
      subst e1 e2
      exact z
  | cons v ys ih =>
    intro gs xs found k hn hg hb
    cases gs with
    | nil => cases hg
    | cons g gs =>
      have hg0 : grown.testBit xs.length = g := by have := hb 0 (by simp); simpa using this
      have hr : (List.range' xs.length (v :: ys).length).map (notAheadN n) = notAheadN n xs.length :: (List.range' (xs ++ [v]).length ys.length).map (notAheadN n) := by
        rw [List.length_cons, List.range'_succ, List.map_cons, List.length_append]; rfl
      rw [hr]
      show ((foundN grown _ (xs.length + 1) ((pairN found).map fun q => stepN grown xs.length (notAheadN n xs.length) q.2 q.1)).getD k 0).testBit (numB (xs ++ v :: ys)) = true ↔ _
      have h := ih gs (xs ++ [v]) ((pairN found).map fun q => stepN grown xs.length (notAheadN n xs.length) q.2 q.1) k (by rw [List.length_append]; simp at hn ⊢; omega) (by simpa using hg) (fun i hi => by
        have := hb (i + 1) (by simpa using hi)
        rw [List.length_append]
        rw [show xs.length + [v].length + i = xs.length + (i + 1) by simp; omega, this]; rfl)
      rw [List.length_append, show xs.length + [v].length = xs.length + 1 from rfl] at h
      rw [show xs ++ v :: ys = xs ++ [v] ++ ys by simp, List.length_append, show xs.length + [v].length = xs.length + 1 from rfl, h]
      have st : ∀ (bs : List Bool) (j : Nat), bs.length = ys.length → ((((pairN found).map fun q => stepN grown xs.length (notAheadN n xs.length) q.2 q.1).getD j 0).testBit (numB (xs ++ [v] ++ bs)) = true ↔
          ∃ s b : Bool, b.toNat + g.toNat = v.toNat + s.toNat ∧ s.toNat ≤ j ∧ (found.getD (j - s.toNat) 0).testBit (numB (xs ++ b :: bs)) = true) := fun bs j hl => by
        rw [pair_at found (fun x y => stepN grown xs.length (notAheadN n xs.length) x y) (step_zero _ _ _) j, show xs ++ [v] ++ bs = xs ++ v :: bs by simp, step_bit (by simp at hn; omega), hg0]
        cases g with
        | true =>
          rw [if_pos rfl]
          simp only [Bool.or_eq_true, Bool.and_eq_true]
          constructor
          · rintro (z | ⟨rfl, z⟩)
            · by_cases j0 : j = 0
              · rw [if_pos j0] at z; simp at z
              · rw [if_neg j0] at z
                exact ⟨true, v, rfl, by simp; omega, z⟩
            · exact ⟨false, false, by simp, by simp, by simpa using z⟩
          · rintro ⟨s, b, e, c, z⟩
            cases s with
            | true =>
              have : b = v := by cases b <;> cases v <;> simp at e <;> rfl
              subst this
              left
              rw [if_neg (by simp at c; omega)]
              exact z
            | false =>
              have : b = false ∧ v = true := by cases b <;> cases v <;> simp at e <;> exact ⟨rfl, rfl⟩
              obtain ⟨rfl, rfl⟩ := this
              right
              exact ⟨rfl, by simpa using z⟩
        | false =>
          rw [if_neg (by decide)]
          simp only [Bool.or_eq_true, Bool.and_eq_true]
          constructor
          · rintro (z | ⟨hv, z⟩)
            · exact ⟨false, v, rfl, by simp, by simpa using z⟩
            · have : v = false := by simpa using hv
              subst this
              by_cases j0 : j = 0
              · rw [if_pos j0] at z; simp at z
              · rw [if_neg j0] at z
                exact ⟨true, true, rfl, by simp; omega, z⟩
          · rintro ⟨s, b, e, c, z⟩
            cases s with
            | true =>
              have : b = true ∧ v = false := by cases b <;> cases v <;> simp at e <;> exact ⟨rfl, rfl⟩
              obtain ⟨rfl, rfl⟩ := this
              right
              refine ⟨rfl, ?_⟩
              rw [if_neg (by simp at c; omega)]
              exact z
            | false =>
              have : b = v := by cases b <;> cases v <;> simp at e <;> rfl
              subst this
              left
              simpa using z
      constructor
      · rintro ⟨ss, bs, r, c, z⟩
        have hl : bs.length = ys.length := by rw [(relB_len r).2.2, ← (relB_len r).1]
        obtain ⟨s, b, e, c2, z2⟩ := (st bs _ hl).mp z
        refine ⟨s :: ss, b :: bs, ⟨e, r⟩, by rw [cntB_cons]; omega, ?_⟩
        rw [cntB_cons, show k - (s.toNat + cntB ss) = k - cntB ss - s.toNat by omega]
        exact z2
      · rintro ⟨ss, bs, r, c, z⟩
        cases ss with
        | nil => exact r.elim
        | cons s ss =>
          cases bs with
          | nil => exact r.elim
          | cons b bs =>
            rw [cntB_cons] at c z
            have hl : bs.length = ys.length := by rw [(relB_len r.2).2.2, ← (relB_len r.2).1]
            refine ⟨ss, bs, r.2, by omega, (st bs _ hl).mpr ⟨s, b, r.1, by omega, ?_⟩⟩
            rw [show k - cntB ss - s.toNat = k - (s.toNat + cntB ss) by omega]
            exact z
theorem or_bit (a : Nat) : ∀ (l : List Nat) (x : Nat), (l.foldl (· ||| ·) x).testBit a = (x.testBit a || l.any fun y => y.testBit a)
  | [], x => by simp
  | y :: l, x => by rw [List.foldl_cons, or_bit a l, Nat.testBit_or, List.any_cons, Bool.or_assoc]
/-- who can have been ahead: some hands, no more than most, lead to one of those behind -/
theorem before_bit {n after grown most : Nat} {as gs : List Bool} (ha : as.length = n) (hg : gs.length = n) (hb : grown = numB gs) :
    (beforeN after grown ((List.range n).map (notAheadN n)) most).testBit (numB as) = true ↔ ∃ ss bs, relB gs as ss bs ∧ cntB ss ≤ most ∧ after.testBit (numB bs) = true := by
  have key : ∀ k, ((foundN grown ((List.range n).map (notAheadN n)) 0 [after]).getD k 0).testBit (numB as) = true ↔ ∃ ss bs, relB gs as ss bs ∧ cntB ss = k ∧ after.testBit (numB bs) = true := fun k => by
    have h := found_bit n grown as gs [] [after] k (by simpa using ha) (hg.trans ha.symm) (fun i hi => by rw [hb, numB_bit]; simp)
    rw [ha] at h
    have er : List.range' ([] : List Bool).length n = List.range n := by rw [List.range_eq_range']; rfl
    rw [er] at h
    show _ ↔ _
    rw [show ([] : List Bool) ++ as = as from rfl, show ([] : List Bool).length = 0 from rfl] at h
    rw [h]
    constructor
    · rintro ⟨ss, bs, r, c, z⟩
      refine ⟨ss, bs, r, ?_, ?_⟩
      · by_cases e : k - cntB ss = 0
        · omega
        · rw [List.getD_eq_getElem?_getD, List.getElem?_eq_none (by simp; omega)] at z
          simp at z
      · by_cases e : k - cntB ss = 0
        · rw [e] at z; exact z
        · rw [List.getD_eq_getElem?_getD, List.getElem?_eq_none (by simp; omega)] at z
          simp at z
    · rintro ⟨ss, bs, r, c, z⟩
      refine ⟨ss, bs, r, by omega, ?_⟩
      rw [c, Nat.sub_self]; exact z
  unfold beforeN
  rw [or_bit]
  simp only [Nat.zero_testBit, Bool.false_or, List.any_eq_true]
  constructor
  · rintro ⟨x, hx, z⟩
    obtain ⟨k, hk, e⟩ := List.getElem_of_mem hx
    rw [List.length_take] at hk
    have : ((foundN grown ((List.range n).map (notAheadN n)) 0 [after]).getD k 0) = x := by
      rw [List.getElem_take] at e
      rw [List.getD_eq_getElem?_getD, List.getElem?_eq_getElem (by omega), e]; rfl
    rw [← this] at z
    obtain ⟨ss, bs, r, c, q⟩ := (key k).mp z
    exact ⟨ss, bs, r, by omega, q⟩
  · rintro ⟨ss, bs, r, c, q⟩
    have z := (key (cntB ss)).mpr ⟨ss, bs, r, rfl, q⟩
    have hl : cntB ss < (foundN grown ((List.range n).map (notAheadN n)) 0 [after]).length := by
      refine Classical.byContradiction fun no => ?_
      rw [List.getD_eq_getElem?_getD, List.getElem?_eq_none (by omega)] at z
      simp at z
    rw [List.getD_eq_getElem?_getD, List.getElem?_eq_getElem hl] at z
    refine ⟨_, ?_, z⟩
    exact List.mem_take_iff_getElem.mpr ⟨cntB ss, by omega, rfl⟩
end Ts
namespace Ts
open PySem PySem.Spec PyProof.Rows L2
/-! ## standings as rows of truths: who is ahead -/
def rowB : List Job → Int → List Bool → List Int
  | j :: js, t, b :: bs => (lowI j.2.1 j.2.2 t + (b.toNat : Int)) :: rowB js t bs
  | _, _, _ => []
/-- who has two numbers -/
def dbB (js : List Job) (t : Int) : List Bool := js.map fun j => decide (lowI j.2.1 j.2.2 t < highI j.2.1 j.2.2 t)
/-- whose lower number grows -/
def grB (js : List Job) (t : Int) : List Bool := js.map fun j => decide (lowI j.2.1 j.2.2 t < lowI j.2.1 j.2.2 (t + 1))
theorem rowB_len : ∀ {js : List Job} {t : Int} {bs : List Bool}, bs.length = js.length → (rowB js t bs).length = js.length
  | [], _, [], _ => rfl
  | j :: js, t, b :: bs, h => by
    show (rowB js t bs).length + 1 = js.length + 1
    rw [rowB_len (by simpa using h)]
  | [], _, _ :: _, h => by cases h
  | _ :: _, _, [], h => by cases h
theorem kept_bit {e p : Nat} {t x : Int} (hp : 0 < p) : x ∈ keptL e p t ↔ ∃ b : Bool, (!b || decide (lowI e p t < highI e p t)) = true ∧ x = lowI e p t + (b.toNat : Int) := by
  have hh := high_eq (e := e) (t := t) hp
  unfold keptL
  by_cases c : t * (e : Int) % (p : Int) = 0
  · rw [if_pos c] at hh ⊢
    rw [hh]
    constructor
    · intro z
      exact ⟨false, rfl, by simpa using z⟩
    · rintro ⟨b, h, rfl⟩
      cases b with
      | false => simp
      | true => simp at h
  · rw [if_neg c] at hh ⊢
    rw [hh]
    constructor
    · intro z
      have : x = lowI e p t ∨ x = lowI e p t + 1 := by simpa using z
      rcases this with z | z
      · exact ⟨false, rfl, by simpa using z⟩
      · exact ⟨true, by simp; omega, by simpa using z⟩
    · rintro ⟨b, h, rfl⟩
      cases b <;> simp
def inP : List Int → List (List Int) → Prop
  | x :: s, o :: os => x ∈ o ∧ inP s os
  | [], [] => True
  | _, _ => False
theorem picks_in : ∀ (os : List (List Int)) (rows : List (List Int)) (r : List Int), r ∈ os.foldl growR rows ↔ ∃ r0 s, r0 ∈ rows ∧ r = r0 ++ s ∧ inP s os
  | [], rows, r => by
    constructor
    · intro h; exact ⟨r, [], h, by simp, trivial⟩
    · rintro ⟨r0, s, h, rfl, g⟩
      cases s with
      | nil => simpa using h
      | cons _ _ => exact g.elim
  | o :: os, rows, r => by
    rw [List.foldl_cons, picks_in os]
    constructor
    · rintro ⟨r0, s, h, rfl, g⟩
      unfold growR at h
      obtain ⟨r1, h1, h2⟩ := List.mem_flatMap.mp h
      obtain ⟨m, hm, rfl⟩ := List.mem_map.mp h2
      exact ⟨r1, m :: s, h1, by simp, hm, g⟩
    · rintro ⟨r0, s, h, rfl, g⟩
      cases s with
      | nil => exact g.elim
      | cons m s =>
        refine ⟨r0 ++ [m], s, ?_, by simp, g.2⟩
        unfold growR
        exact List.mem_flatMap.mpr ⟨r0, h, List.mem_map.mpr ⟨m, g.1, rfl⟩⟩
theorem opts_in (t : Int) : ∀ (js : List Job) (r : List Int), (∀ j ∈ js, 0 < j.2.2) → (inP r (optsR js t) ↔ ∃ bs, subB (dbB js t) bs = true ∧ r = rowB js t bs)
  | [], r, _ => by
    cases r with
    | nil => exact ⟨fun _ => ⟨[], rfl, rfl⟩, fun _ => trivial⟩
    | cons x r =>
      refine ⟨fun h => h.elim, ?_⟩
      rintro ⟨bs, _, h⟩
      cases h
  | j :: js, r, hp => by
    have ih := fun r => opts_in t js r fun j hj => hp j (List.mem_cons_of_mem _ hj)
    have hj := hp j List.mem_cons_self
    cases r with
    | nil =>
      refine ⟨fun h => h.elim, ?_⟩
      rintro ⟨bs, h1, h⟩
      cases bs with
      | nil => cases h1
      | cons b bs => cases h
    | cons x r =>
      show (x ∈ keptL j.2.1 j.2.2 t ∧ inP r (optsR js t)) ↔ _
      rw [kept_bit hj, ih r]
      constructor
      · rintro ⟨⟨b, h1, rfl⟩, bs, h2, rfl⟩
        exact ⟨b :: bs, Bool.and_eq_true_iff.mpr ⟨h1, h2⟩, rfl⟩
      · rintro ⟨bs, h1, h⟩
        cases bs with
        | nil => cases h1
        | cons b bs =>
          obtain ⟨h2, h3⟩ := Bool.and_eq_true_iff.mp h1
          have h' : x :: r = (lowI j.2.1 j.2.2 t + (b.toNat : Int)) :: rowB js t bs := h
          obtain ⟨e1, e2⟩ := List.cons.inj h'
          exact ⟨⟨b, h2, e1⟩, bs, h3, e2⟩
theorem good_pos {js : List Job} (G : Good 16 js) : ∀ j ∈ js, 0 < j.2.2 := fun j hj => by
  obtain ⟨h1, h2, _⟩ := G.part j hj
  omega
theorem rows_bits {js : List Job} {t : Int} {r : List Int} (G : Good 16 js) : r ∈ rowsR js t ↔ ∃ bs, subB (dbB js t) bs = true ∧ r = rowB js t bs := by
  unfold rowsR picksR
  rw [picks_in, ← opts_in t js r (good_pos G)]
  constructor
  · rintro ⟨r0, s, h, rfl, g⟩
    have : r0 = [] := by simpa using h
    subst this
    simpa using g
  · intro g
    exact ⟨[], r, by simp, rfl, g⟩
theorem dbB_len (js : List Job) (t : Int) : (dbB js t).length = js.length := List.length_map _
theorem grB_len (js : List Job) (t : Int) : (grB js t).length = js.length := List.length_map _
theorem doub_B (js : List Job) (t : Nat) : doubN js t = numB (dbB js (t : Int)) := crew_posL0 _ _
theorem grow_B (js : List Job) (t : Nat) : growN js t = numB (grB js (t : Int)) := by
  unfold growN grownL
  rw [crew_posL0]
  congr 1
  unfold lowsR grB
  rw [List.zip_map', List.map_map]
  rfl
/-! ## hands as rows of truths -/
def addB : List Int → List Bool → List Int
  | x :: r, s :: ss => (x + (s.toNat : Int)) :: addB r ss
  | _, _ => []
def sB (n : Nat) (s : List Int) : List Bool := (List.range n).map fun k : Nat => decide ((k : Int) ∈ s)
theorem sB_len (n : Nat) (s : List Int) : (sB n s).length = n := by simp [sB]
theorem addB_get : ∀ (r : List Int) (ss : List Bool), r.length = ss.length → (addB r ss).length = r.length ∧ ∀ k, k < r.length → (addB r ss).getD k 0 = r.getD k 0 + ((ss.getD k false).toNat : Int)
  | [], [], _ => ⟨rfl, fun k h => by simp at h⟩
  | x :: r, s :: ss, h => by
    obtain ⟨h1, h2⟩ := addB_get r ss (by simpa using h)
    refine ⟨by show (addB r ss).length + 1 = r.length + 1; rw [h1], fun k hk => ?_⟩
    cases k with
    | zero => rfl
    | succ k => exact h2 k (by simpa using hk)
  | [], _ :: _, h => by cases h
  | _ :: _, [], h => by cases h
theorem plus_B (r s : List Int) : plusR r s = addB r (sB r.length s) := by
  obtain ⟨h1, h2⟩ := addB_get r (sB r.length s) (sB_len _ _).symm
  refine List.ext_getElem (by rw [h1]; simp [plusR]) fun k g1 g2 => ?_
  have hk : k < r.length := by rw [h1] at g2; exact g2
  have := h2 k hk
  rw [List.getD_eq_getElem?_getD, List.getElem?_eq_getElem g2] at this
  show _ = _
  rw [show (addB r (sB r.length s))[k] = (some (addB r (sB r.length s))[k]).getD 0 from rfl, this]
  have e : (sB r.length s).getD k false = decide ((k : Int) ∈ s) := by
    rw [List.getD_eq_getElem?_getD]
    unfold sB
    rw [List.getElem?_map, List.getElem?_range hk]; rfl
  have e2 : (plusR r s)[k] = r.getD k 0 + (if ((k : Int) ∈ s) then 1 else 0) := by simp only [plusR, List.getElem_map, List.getElem_range]
  rw [e, e2]
  congr 1
  by_cases c : (k : Int) ∈ s
  · rw [if_pos c, decide_eq_true c]; rfl
  · rw [if_neg c, decide_eq_false c]; rfl
theorem low_grows {e p : Nat} {t : Int} (hp : 0 < p) (he : e ≤ p) : lowI e p (t + 1) = lowI e p t + ((decide (lowI e p t < lowI e p (t + 1))).toNat : Int) := by
  have hp : (0 : Int) < p := by omega
  have h1 : lowI e p t ≤ lowI e p (t + 1) := by
    unfold lowI
    refine Int.ediv_le_ediv hp ?_
    rw [Int.add_mul]; omega
  have h2 : lowI e p (t + 1) ≤ lowI e p t + 1 := by
    unfold lowI
    rw [← Int.add_ediv_of_dvd_right (Int.dvd_refl _) |> fun z => (show (t * (e : Int) + (p : Int)) / (p : Int) = t * (e : Int) / (p : Int) + 1 by rw [z, Int.ediv_self (by omega)])]
    refine Int.ediv_le_ediv hp ?_
    rw [Int.add_mul]; omega
  by_cases c : lowI e p t < lowI e p (t + 1)
  · rw [decide_eq_true c]; simp; omega
  · rw [decide_eq_false c]; simp; omega
theorem good_le {js : List Job} (G : Good 16 js) : ∀ j ∈ js, j.2.1 ≤ j.2.2 := fun j hj => by
  obtain ⟨h1, h2, _⟩ := G.part j hj
  omega
theorem add_rel {t : Int} : ∀ {js : List Job} {as ss bs : List Bool}, (∀ j ∈ js, 0 < j.2.2) → (∀ j ∈ js, j.2.1 ≤ j.2.2) → as.length = js.length → ss.length = js.length → bs.length = js.length →
    (addB (rowB js t as) ss = rowB js (t + 1) bs ↔ relB (grB js t) as ss bs)
  | [], [], [], [], _, _, _, _, _ => ⟨fun _ => trivial, fun _ => rfl⟩
  | j :: js, a :: as, s :: ss, b :: bs, hp, he, h1, h2, h3 => by
    have ih := add_rel (t := t) (js := js) (as := as) (ss := ss) (bs := bs) (fun j hj => hp j (List.mem_cons_of_mem _ hj)) (fun j hj => he j (List.mem_cons_of_mem _ hj)) (by simpa using h1) (by simpa using h2) (by simpa using h3)
    have lg := low_grows (t := t) (hp j List.mem_cons_self) (he j List.mem_cons_self)
    show (lowI j.2.1 j.2.2 t + (a.toNat : Int) + (s.toNat : Int)) :: addB (rowB js t as) ss = (lowI j.2.1 j.2.2 (t + 1) + (b.toNat : Int)) :: rowB js (t + 1) bs ↔ (b.toNat + (decide (lowI j.2.1 j.2.2 t < lowI j.2.1 j.2.2 (t + 1))).toNat = a.toNat + s.toNat ∧ relB (grB js t) as ss bs)
    rw [List.cons.injEq, ih]
    generalize (decide (lowI j.2.1 j.2.2 t < lowI j.2.1 j.2.2 (t + 1))).toNat = g at *
    refine and_congr_left fun _ => ?_
    omega
  | [], _ :: _, _, _, _, _, h, _, _ => by cases h
  | [], [], _ :: _, _, _, _, _, h, _ => by cases h
  | [], [], [], _ :: _, _, _, _, _, h => by cases h
  | _ :: _, [], _, _, _, _, h, _, _ => by cases h
  | _ :: _, _ :: _, [], _, _, _, _, h, _ => by cases h
  | _ :: _, _ :: _, _ :: _, [], _, _, _, _, h => by cases h
/-! ## the sets -/
def posI (ss : List Bool) : List Int := (posL id ss 0).map fun m : Nat => (m : Int)
theorem posI_snoc (ss : List Bool) (b : Bool) : posI (ss ++ [b]) = posI ss ++ if b = true then [(ss.length : Int)] else [] := by
  unfold posI
  rw [posL_snoc, List.map_append, Nat.zero_add]
  cases b <;> rfl
theorem posI_mem : ∀ (ss : List Bool) (k : Int), k ∈ posI ss ↔ ∃ i : Nat, k = (i : Int) ∧ i < ss.length ∧ ss.getD i false = true := by
  intro ss
  induction hn : ss.length generalizing ss with
  | zero =>
    intro k
    have : ss = [] := List.length_eq_zero_iff.mp hn
    subst this
    constructor
    · intro h; cases h
    · rintro ⟨i, _, h, _⟩; omega
  | succ n ih =>
    intro k
    obtain ⟨ss, b, rfl, hl⟩ := snoc_of hn
    have ih := ih ss hl k
    rw [posI_snoc, List.mem_append, ih, hl]
    have old : ∀ i, i < n → (ss ++ [b]).getD i false = ss.getD i false := fun i hi => by
      rw [List.getD_eq_getElem?_getD, List.getElem?_append_left (by omega), ← List.getD_eq_getElem?_getD]
    have new : (ss ++ [b]).getD n false = b := by
      rw [List.getD_eq_getElem?_getD, List.getElem?_append_right (by omega), hl, Nat.sub_self]; rfl
    constructor
    · rintro (⟨i, e, h, g⟩ | z)
      · exact ⟨i, e, by omega, by rw [old i h]; exact g⟩
      · cases b with
        | false => simp at z
        | true =>
          have : k = (n : Int) := by simpa using z
          exact ⟨n, this, by omega, new⟩
    · rintro ⟨i, e, h, g⟩
      by_cases c : i < n
      · exact .inl ⟨i, e, c, by rw [← old i c]; exact g⟩
      · have : i = n := by omega
        subst this
        rw [new] at g
        subst g
        exact .inr (by simp [e])
theorem sB_posI {n : Nat} {ss : List Bool} (h : ss.length = n) : sB n (posI ss) = ss := by
  refine List.ext_getElem (by rw [sB_len, h]) fun k h1 h2 => ?_
  have e0 : (sB n (posI ss))[k] = decide ((k : Int) ∈ posI ss) := by simp only [sB, List.getElem_map, List.getElem_range]
  rw [e0]
  have e : ss.getD k false = ss[k] := by rw [List.getD_eq_getElem?_getD, List.getElem?_eq_getElem h2]; rfl
  have : ((k : Int) ∈ posI ss) ↔ ss[k] = true := by
    rw [posI_mem, ← e]
    constructor
    · rintro ⟨i, e1, _, g⟩
      have : i = k := by omega
      rw [← this]; exact g
    · intro g; exact ⟨k, rfl, h2, g⟩
  cases c : ss[k] with
  | true => exact decide_eq_true (this.mpr c)
  | false => exact decide_eq_false fun z => by rw [this.mp z] at c; cases c
theorem posI_inj {xs ys : List Bool} (hl : xs.length = ys.length) (h : posI xs = posI ys) : xs = ys := by
  rw [← sB_posI (ss := xs) rfl, ← sB_posI (ss := ys) rfl, h, hl]
theorem posI_cnt : ∀ ss : List Bool, (posI ss).length = cntB ss := by
  have go : ∀ (ss : List Bool) (i : Nat), (posL id ss i).length = cntB ss := by
    intro ss
    induction ss with
    | nil => intro i; rfl
    | cons s ss ih =>
      intro i
      rw [cntB_cons]
      unfold posL
      cases s with
      | true =>
        show (i :: posL id ss (i + 1)).length = true.toNat + cntB ss
        rw [List.length_cons, ih]; simp; omega
      | false =>
        show (posL id ss (i + 1)).length = false.toNat + cntB ss
        rw [ih]; simp
  intro ss
  unfold posI
  rw [List.length_map, go]
theorem subsL_mem : ∀ (n : Nat) (s : List Int), s ∈ subsL n ↔ ∃ ss : List Bool, ss.length = n ∧ s = posI ss
  | 0, s => by
    constructor
    · intro h
      have e : s = [] := by simpa [subsL] using h
      exact ⟨[], rfl, e⟩
    · rintro ⟨ss, h, rfl⟩
      rw [List.length_eq_zero_iff.mp h]
      simp [subsL, posI, posL]
  | n + 1, s => by
    have ih := subsL_mem n
    rw [subsL, List.mem_append]
    constructor
    · rintro (h | h)
      · obtain ⟨ss, h1, rfl⟩ := (ih s).mp h
        exact ⟨ss ++ [false], by simp [h1], by rw [posI_snoc]; simp⟩
      · obtain ⟨u, hu, rfl⟩ := List.mem_map.mp h
        obtain ⟨ss, h1, rfl⟩ := (ih u).mp hu
        exact ⟨ss ++ [true], by simp [h1], by rw [posI_snoc, h1]; simp⟩
    · rintro ⟨ss, h, rfl⟩
      obtain ⟨ss, b, rfl, hl⟩ := snoc_of h
      rw [posI_snoc, hl]
      cases b with
      | false => left; simpa using (ih _).mpr ⟨ss, hl, rfl⟩
      | true => right; exact List.mem_map.mpr ⟨posI ss, (ih _).mpr ⟨ss, hl, rfl⟩, by simp⟩
theorem sets_mem {n m : Nat} {s : List Int} : s ∈ setsL n m ↔ ∃ ss : List Bool, ss.length = n ∧ cntB ss ≤ m ∧ s = posI ss := by
  unfold setsL
  rw [List.mem_filter, subsL_mem]
  constructor
  · rintro ⟨⟨ss, h1, rfl⟩, h2⟩
    exact ⟨ss, h1, by rw [← posI_cnt]; exact of_decide_eq_true h2, rfl⟩
  · rintro ⟨ss, h1, h2, rfl⟩
    exact ⟨⟨ss, h1, rfl⟩, decide_eq_true (by rw [posI_cnt]; exact h2)⟩
/-! ## what lives, both ways -/
theorem livR_rows {js : List Job} {sets : List (List Int)} : ∀ {k : Nat} {r : List Int}, r ∈ livR js sets k → r ∈ rowsR js ((spanN js : Int) - (k : Int))
  | 0, r, h => by simpa [livR] using h
  | k + 1, r, h => (List.mem_filter.mp h).1
theorem liv_big {js : List Job} {hs : List Nat} : ∀ {k a : Nat}, (livK js hs k).testBit a = true → a < 2 ^ js.length
  | 0, a, h => poss_big (doub_lt js _) h
  | k + 1, a, h => by
    unfold livK at h
    rw [Nat.testBit_and] at h
    exact poss_big (doub_lt js _) (Bool.and_eq_true_iff.mp h).2
theorem hands_getD {n : Nat} {js : List Job} {i : Nat} (h : i < spanN js) : (handsL n js).getD i 0 = n := by
  unfold handsL
  rw [List.getD_eq_getElem?_getD, List.getElem?_replicate, if_pos h]; rfl
theorem liv_bit {js : List Job} (G : Good 16 js) {n : Nat} {sets : List (List Int)} (hr : ∀ s, s ∈ sets ↔ s ∈ setsL js.length n) : ∀ k, k ≤ spanN js → ∀ bs : List Bool, bs.length = js.length →
    ((livK js (handsL n js) k).testBit (numB bs) = true ↔ (subB (dbB js ((spanN js : Int) - (k : Int))) bs = true ∧ rowB js ((spanN js : Int) - (k : Int)) bs ∈ livR js sets k)) := by
  have hl : (handsL n js).length = spanN js := List.length_replicate
  intro k
  induction k with
  | zero =>
    intro _ bs hb
    show (possN js.length (doubN js (handsL n js).length)).testBit (numB bs) = true ↔ _
    rw [hl, doub_B, poss_bit (dbB_len js _) hb]
    have e : ((spanN js : Int) - ((0 : Nat) : Int)) = (spanN js : Int) := by omega
    rw [e]
    refine ⟨fun h => ⟨h, ?_⟩, fun h => h.1⟩
    show rowB js (spanN js : Int) bs ∈ rowsR js (spanN js : Int)
    exact (rows_bits G).mpr ⟨bs, h, rfl⟩
  | succ k ih =>
    intro hk bs hb
    have ih := ih (by omega)
    have e : ((spanN js : Int) - ((k + 1 : Nat) : Int)) = ((spanN js - (k + 1) : Nat) : Int) := by omega
    have e1 : ((spanN js : Int) - (k : Int)) = ((spanN js - (k + 1) : Nat) : Int) + 1 := by omega
    rw [e1] at ih
    unfold livK livR
    rw [e, hl, hands_getD (by omega), Nat.testBit_and, doub_B, poss_bit (dbB_len js _) hb, Bool.and_eq_true_iff]
    generalize spanN js - (k + 1) = t at *
    have bb := before_bit (n := js.length) (after := livK js (handsL n js) k) (most := n) hb (grB_len js (t : Int)) (grow_B js t)
    unfold naL
    rw [bb, List.mem_filter]
    constructor
    · rintro ⟨⟨ss, cs, r, c, z⟩, d⟩
      obtain ⟨l1, l2, l3⟩ := relB_len r
      rw [grB_len] at l1 l2 l3
      obtain ⟨z1, z2⟩ := (ih cs l3).mp z
      refine ⟨d, (rows_bits G).mpr ⟨bs, d, rfl⟩, List.any_eq_true.mpr ⟨posI ss, (hr _).mpr (sets_mem.mpr ⟨ss, l2, c, rfl⟩), decide_eq_true ?_⟩⟩
      rw [plus_B, rowB_len hb, sB_posI l2, (add_rel (good_pos G) (good_le G) hb l2 l3).mpr r]
      exact z2
    · rintro ⟨d, _, z⟩
      refine ⟨?_, d⟩
      obtain ⟨s, hs, z⟩ := List.any_eq_true.mp z
      have z := of_decide_eq_true z
      obtain ⟨ss, l2, c, rfl⟩ := sets_mem.mp ((hr s).mp hs)
      have zr := livR_rows z
      rw [e1] at zr
      obtain ⟨cs, d2, e2⟩ := (rows_bits G).mp zr
      have l3 : cs.length = js.length := by rw [← subB_len d2, dbB_len]
      rw [plus_B, rowB_len hb, sB_posI l2] at e2 z
      refine ⟨ss, cs, (add_rel (good_pos G) (good_le G) hb l2 l3).mp e2, c, (ih cs l3).mpr ⟨d2, ?_⟩⟩
      rw [← e2]; exact z
theorem liv_zero {js : List Job} (G : Good 16 js) {n : Nat} {sets : List (List Int)} (hr : ∀ s, s ∈ sets ↔ s ∈ setsL js.length n) : livK js (handsL n js) (spanN js) = 0 ↔ livR js sets (spanN js) = [] := by
  have lb := liv_bit G hr (spanN js) (Nat.le_refl _)
  constructor
  · intro h
    refine List.eq_nil_iff_forall_not_mem.mpr fun r hmem => ?_
    obtain ⟨bs, d, rfl⟩ := (rows_bits G).mp (livR_rows hmem)
    have := (lb bs (by rw [← subB_len d, dbB_len])).mpr ⟨d, hmem⟩
    rw [h] at this
    simp at this
  · intro h
    refine Nat.eq_of_testBit_eq fun a => ?_
    rw [Nat.zero_testBit]
    cases c : (livK js (handsL n js) (spanN js)).testBit a with
    | false => rfl
    | true =>
      have ha := liv_big c
      rw [← bitsN_num ha] at c
      have := ((lb _ (bitsN_len _ _)).mp c).2
      rw [h] at this; cases this
theorem livL_bit {js : List Job} (G : Good 16 js) {n : Nat} {sets : List (List Int)} (hr : ∀ s, s ∈ sets ↔ s ∈ setsL js.length n) {m : Nat} (hm : m ≤ spanN js) {bs : List Bool} (hb : bs.length = js.length) :
    ((livL js (handsL n js)).getD m 0).testBit (numB bs) = true ↔ (subB (dbB js (m : Int)) bs = true ∧ rowB js (m : Int) bs ∈ (livJ js sets).getD m []) := by
  have hl : (handsL n js).length = spanN js := List.length_replicate
  unfold livL livJ
  rw [hl]
  by_cases c : livK js (handsL n js) (spanN js) = 0
  · rw [if_pos c, if_pos ((liv_zero G hr).mp c), List.getD_eq_getElem?_getD, List.getD_eq_getElem?_getD, List.getElem?_replicate, List.getElem?_replicate, if_pos (by omega), if_pos (by omega)]
    simp
  · rw [if_neg c, if_neg (fun z => c ((liv_zero G hr).mpr z))]
    unfold livT
    rw [List.getD_eq_getElem?_getD, List.getD_eq_getElem?_getD, List.getElem?_map, List.getElem?_map, List.getElem?_range (by omega)]
    have := liv_bit G hr (spanN js - m) (by omega) bs hb
    have e : ((spanN js : Int) - ((spanN js - m : Nat) : Int)) = (m : Int) := by omega
    rw [e] at this
    exact this
end Ts
namespace Ts
open PySem PySem.Spec PyProof.Rows L2
/-! ## choices: crews against sets -/
theorem numB_and : ∀ {xs ys : List Bool}, xs.length = ys.length → numB xs &&& numB ys = numB (List.zipWith (· && ·) xs ys) := by
  intro xs ys h
  refine Nat.eq_of_testBit_eq fun i => ?_
  rw [Nat.testBit_and, numB_bit, numB_bit, numB_bit]
  induction xs generalizing ys i with
  | nil => simp
  | cons x xs ih =>
    cases ys with
    | nil => cases h
    | cons y ys =>
      cases i with
      | zero => rfl
      | succ i => exact ih (by simpa using h) i
theorem numB_or : ∀ {xs ys : List Bool}, xs.length = ys.length → numB xs ||| numB ys = numB (List.zipWith (· || ·) xs ys) := by
  intro xs ys h
  refine Nat.eq_of_testBit_eq fun i => ?_
  rw [Nat.testBit_or, numB_bit, numB_bit, numB_bit]
  induction xs generalizing ys i with
  | nil => rw [← List.length_eq_zero_iff.mp h.symm]; simp
  | cons x xs ih =>
    cases ys with
    | nil => cases h
    | cons y ys =>
      cases i with
      | zero => rfl
      | succ i => exact ih (by simpa using h) i
/-- who must have a hand; whose number is free to grow -/
def ndB (gs as : List Bool) : List Bool := List.zipWith (fun g a => g && !a) gs as
def xoB (gs as : List Bool) : List Bool := List.zipWith (fun g a => g != a) gs as
theorem numB_split (f1 f2 f3 : Bool → Bool → Bool) (hf : ∀ a b, (f1 a b).toNat = (f2 a b).toNat + (f3 a b).toNat) : ∀ {xs ys : List Bool}, xs.length = ys.length → numB (List.zipWith f1 xs ys) = numB (List.zipWith f2 xs ys) + numB (List.zipWith f3 xs ys)
  | [], [], _ => rfl
  | x :: xs, y :: ys, h => by
    have ih := numB_split f1 f2 f3 hf (xs := xs) (ys := ys) (by simpa using h)
    have := hf x y
    show (f1 x y).toNat + 2 * numB (List.zipWith f1 xs ys) = (f2 x y).toNat + 2 * numB (List.zipWith f2 xs ys) + ((f3 x y).toNat + 2 * numB (List.zipWith f3 xs ys))
    omega
  | [], _ :: _, h => by cases h
  | _ :: _, [], h => by cases h
theorem zip_left : ∀ {xs ys : List Bool}, xs.length = ys.length → List.zipWith (fun a _ => a) xs ys = xs
  | [], [], _ => rfl
  | x :: xs, y :: ys, h => by
    show x :: List.zipWith (fun a _ => a) xs ys = x :: xs
    rw [zip_left (by simpa using h)]
  | [], _ :: _, h => by cases h
  | _ :: _, [], h => by cases h
theorem need_B {gs as : List Bool} (h : gs.length = as.length) : needN (numB gs) (numB as) = numB (ndB gs as) := by
  unfold needN
  rw [numB_and h]
  have := numB_split (fun a _ => a) (· && ·) (fun g a => g && !a) (by decide) h
  rw [zip_left h] at this
  unfold ndB
  omega
theorem xor_B {gs as : List Bool} (h : gs.length = as.length) : xorN (numB gs) (numB as) = numB (xoB gs as) := by
  unfold xorN
  rw [numB_and h, numB_or h]
  have := numB_split (· || ·) (· && ·) (fun g a => g != a) (by decide) h
  unfold xoB
  omega
theorem nd_len {gs as : List Bool} (h : gs.length = as.length) : (ndB gs as).length = gs.length := by unfold ndB; rw [List.length_zipWith, ← h, Nat.min_self]
theorem xo_len {gs as : List Bool} (h : gs.length = as.length) : (xoB gs as).length = gs.length := by unfold xoB; rw [List.length_zipWith, ← h, Nat.min_self]
theorem sizes_at : ∀ (n : Nat) (ps : List Bool), ps.length = n → (sizesN n).getD (numB ps) 0 = cntB ps
  | 0, ps, h => by
    rw [List.length_eq_zero_iff.mp h]; rfl
  | n + 1, ps, h => by
    obtain ⟨ps, p, rfl, hl⟩ := snoc_of h
    have ih := sizes_at n ps hl
    have lt : numB ps < 2 ^ n := by have := numB_lt ps; rwa [hl] at this
    have sl := sizes_len n
    have ec : cntB (ps ++ [p]) = cntB ps + p.toNat := by
      unfold cntB
      rw [List.filter_append, List.length_append]
      cases p <;> rfl
    rw [numB_snoc, ec, hl, sizesN]
    cases p with
    | false =>
      rw [show numB ps + 2 ^ n * false.toNat = numB ps by simp, List.getD_eq_getElem?_getD, List.getElem?_append_left (by omega), ← List.getD_eq_getElem?_getD, ih]; rfl
    | true =>
      rw [show numB ps + 2 ^ n * true.toNat = numB ps + 2 ^ n by simp, List.getD_eq_getElem?_getD, List.getElem?_append_right (by omega), sl, Nat.add_sub_cancel, List.getElem?_map, List.getElem?_eq_getElem (by omega)]
      rw [List.getD_eq_getElem?_getD, List.getElem?_eq_getElem (by omega)] at ih
      show (sizesN n)[numB ps] + 1 = cntB ps + 1
      rw [show (sizesN n)[numB ps] = cntB ps from ih]
theorem rel_num : ∀ {gs as ss bs : List Bool}, relB gs as ss bs → numB bs + numB gs = numB as + numB ss
  | [], [], [], [], _ => rfl
  | g :: gs, a :: as, s :: ss, b :: bs, h => by
    have ih := rel_num h.2
    have h1 := h.1
    show b.toNat + 2 * numB bs + (g.toNat + 2 * numB gs) = a.toNat + 2 * numB as + (s.toNat + 2 * numB ss)
    omega
  | [], [], [], _ :: _, h => h.elim
  | [], [], _ :: _, _, h => h.elim
  | [], _ :: _, _, _, h => h.elim
  | _ :: _, [], _, _, h => h.elim
  | _ :: _, _ :: _, [], _, h => h.elim
  | _ :: _, _ :: _, _ :: _, [], h => h.elim
/-- a crew: those that must, and some of those that may -/
theorem crew_of_rel : ∀ {gs as cs bs ds : List Bool}, relB gs as cs bs → subB ds bs = true →
    ∃ ps, subB (List.zipWith (fun d x => d && !x) ds (xoB gs as)) ps = true ∧ numB cs = numB (ndB gs as) + numB ps ∧ cntB cs = cntB (ndB gs as) + cntB ps
  | [], [], [], [], [], _, _ => ⟨[], rfl, rfl, rfl⟩
  | g :: gs, a :: as, c :: cs, b :: bs, d :: ds, h, hd => by
    obtain ⟨d1, d2⟩ := Bool.and_eq_true_iff.mp hd
    obtain ⟨ps, h1, h2, h3⟩ := crew_of_rel h.2 d2
    have h0 := h.1
    refine ⟨(c && !(g && !a)) :: ps, Bool.and_eq_true_iff.mpr ⟨?_, h1⟩, ?_, ?_⟩
    · show (!(c && !(g && !a)) || (d && !(g != a))) = true
      revert h0 d1
      cases g <;> cases a <;> cases c <;> cases b <;> cases d <;> simp
    · show c.toNat + 2 * numB cs = ((g && !a).toNat + 2 * numB (ndB gs as)) + ((c && !(g && !a)).toNat + 2 * numB ps)
      have : c.toNat = (g && !a).toNat + (c && !(g && !a)).toNat := by
        revert h0
        cases g <;> cases a <;> cases c <;> cases b <;> simp
      omega
    · show cntB (c :: cs) = cntB ((g && !a) :: ndB gs as) + cntB ((c && !(g && !a)) :: ps)
      rw [cntB_cons, cntB_cons, cntB_cons]
      have : c.toNat = (g && !a).toNat + (c && !(g && !a)).toNat := by
        revert h0
        cases g <;> cases a <;> cases c <;> cases b <;> simp
      omega
  | [], [], [], _ :: _, _, h, _ => h.elim
  | [], [], _ :: _, _, _, h, _ => h.elim
  | [], _ :: _, _, _, _, h, _ => h.elim
  | _ :: _, [], _, _, _, h, _ => h.elim
  | _ :: _, _ :: _, [], _, _, h, _ => h.elim
  | _ :: _, _ :: _, _ :: _, [], _, h, _ => h.elim
  | [], [], [], [], _ :: _, _, h => by cases h
  | _ :: _, _ :: _, _ :: _, _ :: _, [], _, h => by cases h
theorem rel_of_crew : ∀ {gs as ds ps : List Bool}, gs.length = as.length → ds.length = as.length → subB (List.zipWith (fun d x => d && !x) ds (xoB gs as)) ps = true →
    ∃ cs bs, relB gs as cs bs ∧ numB cs = numB (ndB gs as) + numB ps ∧ cntB cs = cntB (ndB gs as) + cntB ps
  | [], [], [], [], _, _, _ => ⟨[], [], trivial, rfl, rfl⟩
  | g :: gs, a :: as, d :: ds, p :: ps, h1, h2, h => by
    obtain ⟨q1, q2⟩ := Bool.and_eq_true_iff.mp h
    obtain ⟨cs, bs, r, e1, e2⟩ := rel_of_crew (gs := gs) (as := as) (ds := ds) (ps := ps) (by simpa using h1) (by simpa using h2) q2
    have key : ∃ c b : Bool, b.toNat + g.toNat = a.toNat + c.toNat ∧ c.toNat = (g && !a).toNat + p.toNat := by
      have q : (!p || (d && !(g != a))) = true := q1
      revert q
      cases g <;> cases a <;> cases p <;> cases d <;> simp
    obtain ⟨c, b, k1, k2⟩ := key
    refine ⟨c :: cs, b :: bs, ⟨k1, r⟩, ?_, ?_⟩
    · show c.toNat + 2 * numB cs = ((g && !a).toNat + 2 * numB (ndB gs as)) + (p.toNat + 2 * numB ps)
      omega
    · show cntB (c :: cs) = cntB ((g && !a) :: ndB gs as) + cntB (p :: ps)
      rw [cntB_cons, cntB_cons, cntB_cons]; omega
  | [], [], _ :: _, _, _, h, _ => by cases h
  | [], _ :: _, _, _, h, _, _ => by cases h
  | _ :: _, [], _, _, h, _, _ => by cases h
  | _ :: _, _ :: _, [], _, _, h, _ => by cases h
  | [], [], [], _ :: _, _, _, h => by cases h
  | _ :: _, _ :: _, _ :: _, [], _, _, h => by cases h
theorem bit_test (x c : Nat) : (x / 2 ^ c % 2 == 1) = x.testBit c := by
  rw [Nat.testBit_eq_decide_div_mod_eq]
  by_cases h : x / 2 ^ c % 2 = 1
  · rw [decide_eq_true h, h]; rfl
  · rw [decide_eq_false h]; simpa using h
theorem choice_iff {js : List Job} {n m c : Nat} {as : List Bool} (l6 : js.length ≤ 6) (hm : m < spanN js) (ha : as.length = js.length) (hd : ∀ bs : List Bool, bs.length = js.length → ((livL js (handsL n js)).getD (m + 1) 0).testBit (numB bs) = true → subB (dbB js ((m : Int) + 1)) bs = true) :
    c ∈ choicesN js (handsL n js) m (numB as) ↔ ∃ cs bs, c = numB cs ∧ relB (grB js (m : Int)) as cs bs ∧ cntB cs ≤ n ∧ ((livL js (handsL n js)).getD (m + 1) 0).testBit (numB bs) = true := by
  have hg : (grB js (m : Int)).length = as.length := by rw [grB_len, ha]
  have hdl : (dbB js ((m : Int) + 1)).length = as.length := by rw [dbB_len, ha]
  have e1 : ((m + 1 : Nat) : Int) = (m : Int) + 1 := by omega
  have enx : needN (numB (dbB js ((m : Int) + 1))) (numB (xoB (grB js (m : Int)) as)) = numB (List.zipWith (fun d x => d && !x) (dbB js ((m : Int) + 1)) (xoB (grB js (m : Int)) as)) := need_B (by rw [xo_len hg, grB_len, dbB_len])
  have lzd : (List.zipWith (fun d x => d && !x) (dbB js ((m : Int) + 1)) (xoB (grB js (m : Int)) as)).length = js.length := by rw [List.length_zipWith, xo_len hg, grB_len, dbB_len, Nat.min_self]
  unfold choicesN crewsN
  rw [List.mem_filter, doub_B, grow_B, e1, need_B hg, xor_B hg, enx, hands_getD hm, sizes_at _ _ ((nd_len hg).trans (grB_len _ _))]
  generalize (livL js (handsL n js)).getD (m + 1) 0 = lv at *
  rw [bit_test]
  constructor
  · rintro ⟨h1, h2⟩
    obtain ⟨p, hp, rfl⟩ := List.mem_map.mp h1
    obtain ⟨hp1, hp2⟩ := List.mem_filter.mp hp
    have zl : numB (List.zipWith (fun d x => d && !x) (dbB js ((m : Int) + 1)) (xoB (grB js (m : Int)) as)) < 2 ^ js.length := by
      have := numB_lt (List.zipWith (fun d x => d && !x) (dbB js ((m : Int) + 1)) (xoB (grB js (m : Int)) as))
      rwa [lzd] at this
    have pl := subs_lt js.length (subs_getD _ _ zl) hp1
    have ep := bitsN_num pl
    rw [← ep] at hp1 hp2
    have lb := bitsN_len js.length p
    have sub := (subs_mem js.length _ _ lzd lb).mp hp1
    obtain ⟨cs, bs, r, k1, k2⟩ := rel_of_crew hg hdl sub
    have c1 := of_decide_eq_true hp2
    rw [sizes_at _ _ lb] at c1
    have rn := rel_num r
    refine ⟨cs, bs, by rw [k1, ep], r, by omega, ?_⟩
    rw [show numB as + (numB (ndB (grB js (m : Int)) as) + p) - numB (grB js (m : Int)) = numB bs by rw [ep] at k1; omega] at h2
    exact h2
  · rintro ⟨cs, bs, rfl, r, c1, z⟩
    obtain ⟨l1, l2, l3⟩ := relB_len r
    rw [grB_len] at l2 l3
    obtain ⟨ps, k1, k2, k3⟩ := crew_of_rel r (hd bs l3 z)
    have lp : ps.length = js.length := by rw [← subB_len k1, lzd]
    have rn := rel_num r
    refine ⟨List.mem_map.mpr ⟨numB ps, List.mem_filter.mpr ⟨(subs_mem js.length _ _ lzd lp).mpr k1, decide_eq_true (by rw [sizes_at _ _ lp]; omega)⟩, k2.symm⟩, ?_⟩
    rw [show numB as + numB cs - numB (grB js (m : Int)) = numB bs by omega]
    exact z
/-! ### crews as rows -/
theorem members_few {c : Nat} (h : c < 64) : membersN c = (List.range 6).filter fun i => c.testBit i := by
  have go : ∀ c : Fin 64, membersN c.val = (List.range 6).filter fun i => c.val.testBit i := by decide +kernel
  exact go ⟨c, h⟩
theorem pos_filter : ∀ (ss : List Bool) (i : Nat), posL id ss i = (List.range' i ss.length).filter fun k => ss.getD (k - i) false
  | [], i => rfl
  | s :: ss, i => by
    have ih := pos_filter ss (i + 1)
    have e : (List.range' (i + 1) ss.length).filter (fun k => (s :: ss).getD (k - i) false) = (List.range' (i + 1) ss.length).filter fun k => ss.getD (k - (i + 1)) false := by
      refine List.filter_congr fun k hk => ?_
      have := (List.mem_range'_1.mp hk).1
      rw [show k - i = (k - (i + 1)) + 1 by omega]; rfl
    rw [List.length_cons, List.range'_succ, List.filter_cons, e, ← ih, Nat.sub_self]
    show (if id s = true then i :: posL id ss (i + 1) else posL id ss (i + 1)) = if (s :: ss).getD 0 false = true then i :: posL id ss (i + 1) else posL id ss (i + 1)
    rfl
theorem members_B {cs : List Bool} (h : cs.length ≤ 6) : (membersN (numB cs)).map (fun m : Nat => (m : Int)) = posI cs := by
  have lt : numB cs < 64 := Nat.lt_of_lt_of_le (numB_lt cs) (Nat.pow_le_pow_right (n := 2) (by decide) h)
  unfold posI
  rw [members_few lt, pos_filter]
  congr 1
  rw [show (6 : Nat) = cs.length + (6 - cs.length) by omega, List.range_eq_range', ← List.range'_append_1, List.filter_append]
  rw [show (List.range' (0 + cs.length) (6 - cs.length)).filter (fun i => (numB cs).testBit i) = [] from List.filter_eq_nil_iff.mpr fun k hk => by
    have := (List.mem_range'_1.mp hk).1
    rw [numB_bit, List.getD_eq_getElem?_getD, List.getElem?_eq_none (by omega)]
    simp]
  rw [List.append_nil]
  refine List.filter_congr fun k hk => ?_
  rw [numB_bit, Nat.sub_zero]
/-! ### sorted lists with the same members -/
theorem crews_asc {js : List Job} {hs : List Nat} {m a : Nat} : (crewsN js hs m a).Pairwise (· < ·) := by
  unfold crewsN
  refine List.pairwise_map.mpr (List.Pairwise.imp (fun {x y} z => Nat.add_lt_add_left z _) (List.Pairwise.filter _ (subs_asc js.length _ (subs_getD _ _ ?_))))
  exact Nat.lt_of_le_of_lt (need_le _ _) (doub_lt js (m + 1))
/-! ### one tick of the law's own walk -/
theorem livJ_step {js : List Job} {sets : List (List Int)} {m : Nat} (hm : m < spanN js) {r : List Int} (hr : r ∈ rowsR js (m : Int)) :
    decide (r ∈ (livJ js sets).getD m []) = sets.any fun s => decide (plusR r s ∈ (livJ js sets).getD (m + 1) []) := by
  unfold livJ
  by_cases c : livR js sets (spanN js) = []
  · rw [if_pos c]
    have z : ∀ i, (List.replicate (spanN js + 1) ([] : List (List Int))).getD i [] = [] := fun i => by
      rw [List.getD_eq_getElem?_getD, List.getElem?_replicate]
      split <;> rfl
    rw [z, z]
    simp
  · rw [if_neg c]
    unfold livT
    have z : ∀ i, i ≤ spanN js → ((List.range (spanN js + 1)).map fun m => livR js sets (spanN js - m)).getD i [] = livR js sets (spanN js - i) := fun i hi => by
      rw [List.getD_eq_getElem?_getD, List.getElem?_map, List.getElem?_range (by omega)]; rfl
    rw [z m (by omega), z (m + 1) (by omega), show spanN js - m = spanN js - (m + 1) + 1 by omega, livR_succ]
    have e : ((spanN js : Int) - ((spanN js - (m + 1) + 1 : Nat) : Int)) = (m : Int) := by omega
    rw [e]
    unfold goB
    cases g : sets.any fun s => decide (plusR r s ∈ livR js sets (spanN js - (m + 1))) with
    | true => exact decide_eq_true (List.mem_filter.mpr ⟨hr, g⟩)
    | false => exact decide_eq_false fun y => by rw [(List.mem_filter.mp y).2] at g; cases g
theorem LivAll.get {H : Hp} {vs : List V} {rs : List (List (List Int))} (h : LivAll H vs rs) : ∀ {i : Nat} {rows : List (List Int)}, rs[i]? = some rows → ∃ a, vs[i]? = some (.ref a) ∧ H a = some (.dT (rowsK rows)) := by
  induction h with
  | nil => intro i rows e; simp at e
  | cons a _ ih =>
    intro i rows e
    cases i with
    | zero => obtain ⟨x, rfl, g⟩ := a; cases e; exact ⟨x, rfl, g⟩
    | succ i => exact ih (by simpa using e)
end Ts
namespace Ts
open PySem PySem.Spec PyProof.Rows L2
/-! ## what is alive, both ways -/
theorem filter_all {α : Type} (l : List α) : l.filter (fun _ => true) = l := List.filter_eq_self.mpr fun _ _ => rfl
theorem livJ_filter {js : List Job} {sets : List (List Int)} {m : Nat} (hm : m ≤ spanN js) : ∃ p, (livJ js sets).getD m [] = (rowsR js (m : Int)).filter p := by
  unfold livJ
  split
  · refine ⟨fun _ => false, ?_⟩
    rw [List.getD_eq_getElem?_getD, List.getElem?_replicate, if_pos (by omega)]
    simp
  · unfold livT
    rw [List.getD_eq_getElem?_getD, List.getElem?_map, List.getElem?_range (by omega)]
    show ∃ p, livR js sets (spanN js - m) = _
    cases h : spanN js - m with
    | zero =>
      refine ⟨fun _ => true, ?_⟩
      rw [show (m : Int) = (spanN js : Int) by omega, filter_all]; rfl
    | succ k => exact ⟨goB js sets k, by rw [livR_succ, show ((spanN js : Int) - ((k + 1 : Nat) : Int)) = (m : Int) by omega]⟩
end Ts
namespace Ts
open PySem PySem.Spec PyProof.Rows L2
/-! ## ways through the round -/
def wayN (js : List Job) (hs : List Nat) : Nat → Nat → Nat
  | 0, _ => 1
  | k + 1, a => ((choicesN js hs (hs.length - (k + 1)) a).map fun c => wayN js hs k (a + c - growN js (hs.length - (k + 1)))).sum
def keysW (js : List Job) (hs : List Nat) : Nat → List Nat
  | 0 => if aliveB js hs 0 0 = true then [0] else []
  | k + 1 => ((subsN js.length).getD (doubN js (hs.length - (k + 1))) []).filter (aliveB js hs (hs.length - (k + 1)))
/-- each choice: hands as a row of truths, and who is ahead behind it -/
theorem choice_bits {js : List Job} (G : Good 16 js) (l6 : js.length ≤ 6) {n m : Nat} (hm : m < spanN js) {as : List Bool} (la : as.length = js.length) {sets : List (List Int)} (mem : ∀ s, s ∈ sets ↔ s ∈ setsL js.length n) {c : Nat} :
    c ∈ choicesN js (handsL n js) m (numB as) ↔ ∃ cs bs, c = numB cs ∧ cs.length = js.length ∧ bs.length = js.length ∧ relB (grB js (m : Int)) as cs bs ∧ cntB cs ≤ n ∧ subB (dbB js ((m : Int) + 1)) bs = true ∧ rowB js ((m : Int) + 1) bs ∈ (livJ js sets).getD (m + 1) [] := by
  have lb := fun (bs : List Bool) (hb : bs.length = js.length) => livL_bit G mem (m := m + 1) (by omega) hb
  have e1 : ((m + 1 : Nat) : Int) = (m : Int) + 1 := by omega
  rw [e1] at lb
  have ci := choice_iff (n := n) (m := m) (c := c) (as := as) l6 hm la fun bs hb z => ((lb bs hb).mp z).1
  rw [ci]
  constructor
  · rintro ⟨cs, bs, e, r1, c1, z⟩
    obtain ⟨_, l2, l3⟩ := relB_len r1
    rw [grB_len] at l2 l3
    exact ⟨cs, bs, e, l2, l3, r1, c1, (lb bs l3).mp z⟩
  · rintro ⟨cs, bs, e, l2, l3, r1, c1, z⟩
    exact ⟨cs, bs, e, r1, c1, (lb bs l3).mpr z⟩
theorem choices_perm {js : List Job} (G : Good 16 js) (l6 : js.length ≤ 6) {n m : Nat} (hm : m < spanN js) {as : List Bool} (la : as.length = js.length) {sets : List (List Int)} (nd : sets.Nodup) (mem : ∀ s, s ∈ sets ↔ s ∈ setsL js.length n) :
    (crewRows (choicesN js (handsL n js) m (numB as))).Perm (sets.filter fun s => decide (plusR (rowB js (m : Int) as) s ∈ (livJ js sets).getD (m + 1) [])) := by
  have cb := fun c => choice_bits G l6 hm la mem (c := c)
  refine (List.perm_ext_iff_of_nodup ?_ (List.Pairwise.filter _ nd)).mpr fun s => ?_
  · unfold crewRows
    have asc : (choicesN js (handsL n js) m (numB as)).Pairwise (· < ·) := List.Pairwise.filter _ crews_asc
    refine List.pairwise_map.mpr (List.Pairwise.imp_of_mem (fun {x y} hx hy z e => ?_) asc)
    obtain ⟨cs, bs, rfl, g1, _⟩ := (cb x).mp hx
    obtain ⟨cs2, bs2, rfl, g2, _⟩ := (cb y).mp hy
    rw [members_B (by omega), members_B (by omega)] at e
    have := posI_inj (g1.trans g2.symm) e
    subst this
    omega
  · rw [List.mem_filter, mem, sets_mem]
    unfold crewRows
    rw [List.mem_map]
    constructor
    · rintro ⟨c, hc, rfl⟩
      obtain ⟨cs, bs, rfl, g1, g2, r1, c1, _, z⟩ := (cb c).mp hc
      rw [members_B (by omega)]
      refine ⟨⟨cs, g1, c1, rfl⟩, decide_eq_true ?_⟩
      rw [plus_B, rowB_len la, sB_posI g1, (add_rel (good_pos G) (good_le G) la g1 g2).mpr r1]
      exact z
    · rintro ⟨⟨ss, g1, c1, rfl⟩, z⟩
      have z := of_decide_eq_true z
      rw [plus_B, rowB_len la, sB_posI g1] at z
      obtain ⟨p, hp⟩ := livJ_filter (js := js) (sets := sets) (m := m + 1) (by omega)
      have hrow : addB (rowB js (m : Int) as) ss ∈ rowsR js ((m : Int) + 1) := by
        rw [hp] at z
        have := (List.mem_filter.mp z).1
        rwa [show ((m + 1 : Nat) : Int) = (m : Int) + 1 by omega] at this
      obtain ⟨bs, d2, e2⟩ := (rows_bits G).mp hrow
      have g2 : bs.length = js.length := by rw [← subB_len d2, dbB_len]
      have r1 := (add_rel (good_pos G) (good_le G) la g1 g2).mp e2
      rw [e2] at z
      exact ⟨numB ss, (cb _).mpr ⟨ss, bs, rfl, g1, g2, r1, c1, d2, z⟩, members_B (by omega)⟩
end Ts
namespace Ts
open PySem PySem.Spec PyProof.Rows L2
/-! ## dicts of who is ahead, and in how many ways one goes on -/
def natK (f : Nat → Nat) (as : List Nat) : List (L2.Key × V) := as.map fun a : Nat => (Sum.inl (a : Int), V.int (f a : Int))
def waysK (js : List Job) (hs : List Nat) (k : Nat) : List (L2.Key × V) := natK (wayN js hs k) (keysW js hs k)
/-- from the end of the round: the i-th one holds for i ticks ahead of it -/
def WaysTo (H : Hp) (js : List Job) (hs : List Nat) (vs : List V) (k : Nat) : Prop := vs.length = k + 1 ∧ ∀ i, i ≤ k → ∃ d, vs[i]? = some (.ref d) ∧ H d = some (.dK (waysK js hs i))
theorem WaysTo.mono {H H' : Hp} {js : List Job} {hs : List Nat} {vs : List V} {k : Nat} (h : WaysTo H js hs vs k) (s : Same H H') : WaysTo H' js hs vs k := ⟨h.1, fun i hi => let ⟨d, e1, e2⟩ := h.2 i hi; ⟨d, e1, s _ _ e2⟩⟩
theorem WaysTo.snoc {H : Hp} {js : List Job} {hs : List Nat} {vs : List V} {k : Nat} {d : Addr} (h : WaysTo H js hs vs k) (g : H d = some (.dK (waysK js hs (k + 1)))) : WaysTo H js hs (vs ++ [.ref d]) (k + 1) := by
  refine ⟨by rw [List.length_append, h.1]; rfl, fun i hi => ?_⟩
  by_cases c : i ≤ k
  · obtain ⟨d2, e1, e2⟩ := h.2 i c
    exact ⟨d2, by rw [List.getElem?_append_left (by rw [h.1]; omega)]; exact e1, e2⟩
  · have : i = k + 1 := by omega
    subst this
    exact ⟨d, by rw [List.getElem?_append_right (by rw [h.1]; omega), h.1, Nat.sub_self]; rfl, g⟩
/-! ## the law's own count -/
/-- pairs (row, number) of a list -/
inductive PairN (f : List Int → Nat) (H : Hp) : List Addr → List (List L2.Key × Addr × V) → List (List Int) → Prop
  | nil : PairN f H [] [] []
  | cons {p a : Addr} {r : List Int} {ps : List Addr} {qs : List (List L2.Key × Addr × V)} {rows : List (List Int)} (h : H p = some (.tup [.ref a, .int (f r : Int)])) (g : H a = some (.tup (r.map V.int))) (t : PairN f H ps qs rows) : PairN f H (p :: ps) ((keyR r, a, .int (f r : Int)) :: qs) (r :: rows)
theorem PairN.mono {f : List Int → Nat} {H H' : Hp} {ps : List Addr} {qs : List (List L2.Key × Addr × V)} {rows : List (List Int)} (h : PairN f H ps qs rows) (s : Same H H') : PairN f H' ps qs rows := by
  induction h with
  | nil => exact .nil
  | cons a b _ ih => exact .cons (s _ _ a) (s _ _ b) ih
theorem PairN.snoc {f : List Int → Nat} {H : Hp} {ps : List Addr} {qs : List (List L2.Key × Addr × V)} {rows : List (List Int)} {p a : Addr} {r : List Int} (h : PairN f H ps qs rows) (e : H p = some (.tup [.ref a, .int (f r : Int)])) (g : H a = some (.tup (r.map V.int))) :
    PairN f H (ps ++ [p]) (qs ++ [(keyR r, a, .int (f r : Int))]) (rows ++ [r]) := by
  induction h with
  | nil => exact .cons e g .nil
  | cons a b _ ih => exact .cons a b ih
end Ts
namespace Ts
open PySem PySem.Spec PyProof.Rows L2
/-! ## any way through the round, and that it is a right table -/
def anyN (js : List Job) (hs : List Nat) : Nat → Nat → Nat → List Nat
  | 0, _, _ => []
  | k + 1, m, a => (choicesN js hs m a).headD 0 :: anyN js hs k (m + 1) (a + (choicesN js hs m a).headD 0 - growN js m)
theorem any_some {js : List Job} (G : Good 16 js) (l6 : js.length ≤ 6) {n m : Nat} (hm : m < spanN js) {as : List Bool} (la : as.length = js.length) (d : subB (dbB js (m : Int)) as = true) {sets : List (List Int)} (nd : sets.Nodup) (mem : ∀ s, s ∈ sets ↔ s ∈ setsL js.length n)
    (h : rowB js (m : Int) as ∈ (livJ js sets).getD m []) : (choicesN js (handsL n js) m (numB as)).headD 0 ∈ choicesN js (handsL n js) m (numB as) := by
  have hr : rowB js (m : Int) as ∈ rowsR js (m : Int) := (rows_bits G).mpr ⟨as, d, rfl⟩
  have st := livJ_step hm hr (sets := sets)
  rw [decide_eq_true h] at st
  obtain ⟨s, hs, z⟩ := List.any_eq_true.mp st.symm
  have hmem : s ∈ sets.filter (fun s => decide (plusR (rowB js (m : Int) as) s ∈ (livJ js sets).getD (m + 1) [])) := List.mem_filter.mpr ⟨hs, z⟩
  have := (choices_perm G l6 hm la nd mem).mem_iff.mpr hmem
  obtain ⟨c, hc, _⟩ := List.mem_map.mp this
  cases e : choicesN js (handsL n js) m (numB as) with
  | nil => rw [e] at hc; cases hc
  | cons x l => exact List.mem_cons_self
def rowOf (c : Nat) : List Int := (membersN c).map fun m : Nat => (m : Int)
/-- the table that comes about -/
def tabR (js : List Job) (n : Nat) : List (List Int) := (anyN js (handsL n js) (spanN js) 0 0).map rowOf
/-! ## the checker's own look finds it right -/
/-! ## what is asked -/
/-- a table, or none -/
def TabV (H : Hp) (js : List Job) (n : Nat) (v : V) : Prop := (aliveB js (handsL n js) 0 0 = false ∧ v = .non) ∨ (aliveB js (handsL n js) 0 0 = true ∧ ∃ (p : Addr) (us : List V), v = .ref p ∧ H p = some (.tup us) ∧ RowT H us (tabR js n))
theorem TabV.mono {H H' : Hp} {js : List Job} {n : Nat} {v : V} (h : TabV H js n v) (s : Same H H') : TabV H' js n v := by
  rcases h with h | ⟨h, p, us, e, a, r⟩
  · exact .inl h
  · exact .inr ⟨h, p, us, e, s _ _ a, r.mono s⟩
/-! ## step by step -/
/-! ## the law's own look at a table -/
end Ts
namespace Ts
open PySem PySem.Spec PyProof.Rows L2
/-! ## alike data sorted and compared -/
/-- sorted(xs), xs a list of alike data -/
def rSortP (K : PySem.W.Frag) : List V → Hp → VK → Prop := fun vs H Q => ∃ (a : Addr) (xs : List V) (ds : List PyData), vs = [V.ref a] ∧ SqL K H a xs ∧ DpAll K H xs ds ∧ PySem.W.AllAlike ds ∧ PySem.W.Sortable ds ∧ (∀ d ∈ ds, d.depth ≤ 60) ∧
  ∀ (ys : List V) (p : Addr), DpAll K H ys (ds.mergeSort (PySem.W.dataLe false id)) → H p = none → Q (.ref p) (upd H p (.lst ys))
theorem each_of {X : Cx} {H : Hp} : ∀ {xs : List V} {us : List Value} {ds : List PyData}, Vals xs us → DpAll X.K H xs ds → PySem.W.EachIs (fun u d => ∃ v, RelV v u ∧ Dp X.K H v d) us ds
  | _, _, _, .nil, .nil => .nil
  | _, _, _, .cons r rs, .cons d t => .cons ⟨_, r, d⟩ (each_of rs t)
theorem each_to {X : Cx} {H : Hp} : ∀ {us : List Value} {ds : List PyData}, PySem.W.EachIs (fun u d => ∃ v, RelV v u ∧ Dp X.K H v d) us ds → ∃ xs, Vals xs us ∧ DpAll X.K H xs ds
  | _, _, .nil => ⟨[], .nil, .nil⟩
  | _, _, .cons ⟨v, r, d⟩ t => by
    obtain ⟨xs, h1, h2⟩ := each_to t
    exact ⟨v :: xs, .cons r h1, .cons d h2⟩
theorem cr_sortP {X : Cx} (hu : X.A.units + 64 < cLine) : CallR X (.builtin "sorted") (rSortP X.K) := by
  intro pins s σ H vs us Q I r h
  obtain ⟨a, xs, ds, rfl, hs, hx, hal, hk, hdep, q⟩ := h
  obtain ⟨its, rv, hl2, hz⟩ := I.list hs
  rw [Vals.ref1 r]
  have e := each_of rv hx
  have er : PySem.W.EachIs (fun v d => ∃ as, Reads s.heap v (id d) as) its ds := e.mono fun u d ⟨v, rv', hv⟩ => Dp.reads I d v u hv rv'
  have ld : ds.length = xs.length := hx.length.symm
  refine PySem.W.sorted_data (enc := id) hl2.isList e er (by rw [List.map_id]; exact hal) (by rw [List.map_id]; exact hk) (by rw [ld]; exact hz) (fun d hd => ?_) fun out lo eo => ?_
  · have := hdep d hd
    show X.A.units + 2 + d.depth < cLine
    omega
  · obtain ⟨ys, v1, v2⟩ := each_to eo
    have kp : ∀ b o, s.heap.get? b = some o → (sortedAll s.heap its (List.toArray out)).get? b = some o := fun b o e => sortedAll_old e
    have hd : s.heap.objs.size ≤ s.heap.objs.size + 1 := Nat.le_succ _
    obtain ⟨n, hn⟩ := sortedAll_at s.heap its out.toArray
    refine ⟨.ref (s.heap.objs.size + 1), upd H (s.heap.objs.size + 1) (.lst ys), I.laid (t' := s.toks) kp hd ⟨?_, out, n, v1, hn⟩, rfl, q ys _ v2 (I.hok.fresh hd)⟩
    rw [v1.length, lo, ld]; exact hz
end Ts
namespace Ts
open PySem PySem.Spec PyProof.Rows L2 L2H LamX
/-! ## the classes of errors that `_law_sort` tells apart -/
structure Cls9 where
  (l u n r s t a c y : Addr)
abbrev Cls9.list (c : Cls9) : List Addr := [c.l, c.u, c.n, c.r, c.s, c.t, c.a, c.c, c.y]
structure ErrN9 (mg : Str → Option Value) (c : Cls9) (b : Bas3) : Prop where
  NotALot : mg "NotALot" = some (.ref c.l)
  UnknownName : mg "UnknownName" = some (.ref c.u)
  InvalidNumber : mg "InvalidNumber" = some (.ref c.n)
  InvalidRule : mg "InvalidRule" = some (.ref c.r)
  InvalidStanding : mg "InvalidStanding" = some (.ref c.s)
  InvalidTable : mg "InvalidTable" = some (.ref c.t)
  InvalidLates : mg "InvalidLates" = some (.ref c.a)
  InvalidCounts : mg "InvalidCounts" = some (.ref c.c)
  TooMany : mg "TooMany" = some (.ref c.y)
  WrongValue : mg "WrongValue" = some (.ref b.v)
  WrongName : mg "WrongName" = some (.ref b.w)
  NoAnswer : mg "NoAnswer" = some (.ref b.x)
/-- the class at C is the one of the index i -/
structure IsSort (K : PySem.W.Frag) (c : Cls9) (C : Addr) (i : Nat) : Prop where
  i9 : i < 9
  k : ∀ j a, c.list[j]? = some a → PySem.W.kitOne K (.ref C) (.ref a) = some (decide (j = i))
def sortWords : List Str := ["NotALot", "UnknownName", "InvalidNumber", "InvalidRule", "InvalidStanding", "InvalidTable", "InvalidLates", "InvalidCounts", "TooMany"]
def sortField (i : Nat) : Str := if i = 6 ∨ i = 7 then "index" else if i = 8 then "limit" else "given"
def spSort (K : PySem.W.Frag) (c : Cls9) (p : Addr × Obj) : Sp := fun vs H Q _ => ∃ (C : Addr) (i : Nat) (t : Str) (v : V), vs = [.ref p.1] ∧ ExcK K C ∧ ErrAt H p C [(sortField i, v)] ∧ IsSort K c C i ∧ PySem.W.findIn K (.ref C) (sortField i) = some none ∧ sortWords[i]? = some t ∧
  ∀ (l : Addr) (H' : Hp), Same H H' → H' l = some (.tup [.str t, v]) → Q (.ref l) H'
/-- behind the first j looks -/
def SortMid (p L : Addr) (H : Hp) (i : Nat) (t : Str) (v : V) (j : Nat) (σ' : L2.St) (H' : Hp) : Prop := Same H H' ∧ σ' = [some (.ref p), some (.ref L)] ∧ ((j ≤ i ∧ H' L = some (.lst [])) ∨ (i < j ∧ ∃ tp, H' L = some (.lst [.ref tp]) ∧ H' tp = some (.tup [.str t, v])))
/-! ## a call that is caught -/
def CaughtE (K : PySem.W.Frag) (c : Cls9) (b : Bas3) (Q : VK) : XK := fun cls d H' => ∃ (C dd : Addr) (i : Nat) (t : Str) (v : V), cls = .ref C ∧ ExcK K C ∧ IsSort K c C i ∧ sortWords[i]? = some t ∧ PySem.W.exmAny K (.ref C) [.ref b.v, .ref b.w, .ref b.x] = some true ∧
  d = some dd ∧ H' dd = some (.xd [(sortField i, v)]) ∧ PySem.W.findIn K (.ref C) (sortField i) = some none ∧ ∀ (l : Addr) (H2 : Hp), Same H' H2 → H2 l = some (.tup [.str t, v]) → Q (.ref l) H2
def CaughtQ (Q : VK) : VK := fun v H' => ∀ (l : Addr) (H2 : Hp), Same H' H2 → H2 l = some (.tup [.str "let", v]) → Q (.ref l) H2
def TTcaught (K : PySem.W.Frag) (c : Cls9) (b : Bas3) (tl : XK → Hp → VK → Prop) (H : Hp) (Q : VK) : Prop :=
  ∃ (E' : XK) (Q' : VK), tl E' H Q' ∧ (∀ cls d H', E' cls d H' → CaughtE K c b Q cls d H') ∧ ∀ v H', Q' v H' → CaughtQ Q v H'
/-- an error of the class at C, of the index i -/
structure SortI (K : PySem.W.Frag) (c : Cls9) (b : Bas3) (C : Addr) (i : Nat) (t : Str) : Prop where
  ex : ExcK K C
  is : IsSort K c C i
  wd : sortWords[i]? = some t
  an : PySem.W.exmAny K (.ref C) [.ref b.v, .ref b.w, .ref b.x] = some true
  no : PySem.W.findIn K (.ref C) (sortField i) = some none
theorem raise_caught {K : PySem.W.Frag} {c : Cls9} {b : Bas3} {C : Addr} {i : Nat} {t fld : Str} {H : Hp} {v : V} {Q : VK} (h : SortI K c b C i t) (hf : sortField i = fld)
    (q : ∀ (l : Addr) (H2 : Hp), Same H H2 → H2 l = some (.tup [.str t, v]) → Q (.ref l) H2) : Raise1 C fld v H (CaughtE K c b Q) := by
  subst hf
  intro H' d s hd
  exact ⟨C, d, i, t, v, rfl, h.ex, h.is, h.wd, h.an, rfl, upd_same, h.no, fun l H2 s2 e => q l H2 (s.trans ((same_new hd).trans s2)) e⟩
end Ts
namespace Ts
open PySem PySem.Spec PyProof.Rows L2 L2H LamX
/-! ## values that are surely equal, whatever lies in them: the same object, or alike ones -/
mutual
inductive EqV (K : PySem.W.Frag) (H : Hp) : Nat → V → V → Prop
  | ref {n : Nat} (a : Addr) : EqV K H n (.ref a) (.ref a)
  | non {n : Nat} : EqV K H n .non .non
  | bl {n : Nat} (b : Bool) : EqV K H n (.bl b) (.bl b)
  | int {n : Nat} (i : Int) : EqV K H n (.int i) (.int i)
  | str {n : Nat} (t : Str) : EqV K H n (.str t) (.str t)
  | tup {n : Nat} {a b : Addr} {xs ys : List V} : SqT K H a xs → SqT K H b ys → EqVs K H n xs ys → EqV K H (n + 1) (.ref a) (.ref b)
  | lst {n : Nat} {a b : Addr} {xs ys : List V} : SqL K H a xs → SqL K H b ys → EqVs K H n xs ys → EqV K H (n + 1) (.ref a) (.ref b)
inductive EqVs (K : PySem.W.Frag) (H : Hp) : Nat → List V → List V → Prop
  | nil {n : Nat} : EqVs K H n [] []
  | cons {n : Nat} {x y : V} {xs ys : List V} : EqV K H n x y → EqVs K H n xs ys → EqVs K H n (x :: xs) (y :: ys)
end
theorem EqVs.length {K : PySem.W.Frag} {H : Hp} {n : Nat} : ∀ {xs ys : List V}, EqVs K H n xs ys → xs.length = ys.length
  | _, _, .nil => rfl
  | _, _, .cons _ t => by rw [List.length_cons, List.length_cons, EqVs.length t]
theorem EqVs.get {K : PySem.W.Frag} {H : Hp} {n : Nat} : ∀ {xs ys : List V} {j : Nat} {x y : V}, EqVs K H n xs ys → xs[j]? = some x → ys[j]? = some y → EqV K H n x y
  | _, _, 0, _, _, .cons h _, e, f => by cases e; cases f; exact h
  | _, _, j + 1, _, _, .cons _ t, e, f => EqVs.get (j := j) t e f
  | _, _, _, _, _, .nil, e, _ => by simp at e
/-- of scalars and of one object -/
theorem EqV.refl {K : PySem.W.Frag} {H : Hp} {n : Nat} {v : V} (h : (∃ a, v = .ref a) ∨ v = .non ∨ (∃ b, v = .bl b) ∨ (∃ i, v = .int i) ∨ ∃ t, v = .str t) : EqV K H n v v := by
  rcases h with ⟨a, rfl⟩ | rfl | ⟨b, rfl⟩ | ⟨i, rfl⟩ | ⟨t, rfl⟩
  · exact .ref a
  · exact .non
  · exact .bl b
  · exact .int i
  · exact .str t
theorem vals_at {xs : List V} {us : List Value} (h : Vals xs us) {j : Nat} (hj : j < us.length) : ∃ x, xs[j]? = some x ∧ RelV x us[j] := by
  induction h generalizing j with
  | nil => cases hj
  | cons r t ih =>
    cases j with
    | zero => exact ⟨_, rfl, r⟩
    | succ j => exact ih (by simpa using hj)
section
variable {X : Cx} {pins : List (Addr × Obj)} {σ : L2.St} {H : Hp} {s : Shared}
theorem eqv_at (I : Inv X pins σ H s) : ∀ (n : Nat) (A : Around) (x y : V) (v u : Value), EqV X.K H n x y → RelV x v → RelV y u → A.units + n < cLine → SeqAt.EqAt A s v u true := by
  intro n
  induction n with
  | zero =>
    intro A x y v u h rv ru hu
    cases h with
    | ref a => cases rv; cases ru; exact .same _
    | non => cases rv; cases ru; exact .same _
    | bl b => cases rv; cases ru; exact .same _
    | int i =>
      obtain ⟨t, rfl⟩ := rv
      obtain ⟨t', rfl⟩ := ru
      have := SeqAt.EqAt.int_int (A := A) (s := s) i t i t'
      rwa [beq_self_eq_true] at this
    | str x =>
      obtain ⟨t, rfl⟩ := rv
      obtain ⟨t', rfl⟩ := ru
      have := SeqAt.EqAt.str_str (A := A) (s := s) x t x t'
      rwa [beq_self_eq_true] at this
  | succ n ih =>
    intro A x y v u h rv ru hu
    cases h with
    | ref a => cases rv; cases ru; exact .same _
    | non => cases rv; cases ru; exact .same _
    | bl b => cases rv; cases ru; exact .same _
    | int i =>
      obtain ⟨t, rfl⟩ := rv
      obtain ⟨t', rfl⟩ := ru
      have := SeqAt.EqAt.int_int (A := A) (s := s) i t i t'
      rwa [beq_self_eq_true] at this
    | str x =>
      obtain ⟨t, rfl⟩ := rv
      obtain ⟨t', rfl⟩ := ru
      have := SeqAt.EqAt.str_str (A := A) (s := s) x t x t'
      rwa [beq_self_eq_true] at this
    | @tup _ a b xs ys ha hb he =>
      cases rv; cases ru
      obtain ⟨its, rx, ⟨o, ho, hc, k, hd⟩, _⟩ := I.tuple ha
      obtain ⟨its', ry, ⟨o', ho', hc', k', hd'⟩, _⟩ := I.tuple hb
      have l1 := he.length
      have l2 := rx.length
      have l3 := ry.length
      by_cases e : a = b
      · subst e; exact .same _
      · have := SeqAt.RcAt.tuples (A := A) (e := fun _ => true) ⟨o, ho, hc, k, hd⟩ ⟨o', ho', hc', k', hd'⟩ (by omega) (fun j h1 h2 => by
          have h1' : j < its.length := by simpa using h1
          have h2' : j < its'.length := by simpa using h2
          obtain ⟨x, ex, r1⟩ := vals_at rx h1'
          obtain ⟨y, ey, r2⟩ := vals_at ry h2'
          have hu' : A.in1.units + n < cLine := by show A.units + 1 + n < cLine; omega
          have := ih A.in1 x y _ _ (he.get ex ey) r1 r2 hu'
          simpa using this)
        have e2 : ((List.range (min its.toArray.size its'.toArray.size)).all (fun _ => true) && its.toArray.size == its'.toArray.size) = true := by
          rw [Bool.and_eq_true]
          refine ⟨by simp, ?_⟩
          simp
          omega
        rw [e2] at this
        exact .of_refs e this
    | @lst _ a b xs ys ha hb he =>
      cases rv; cases ru
      obtain ⟨its, rx, ⟨o, k, ho, hc, _, hd⟩, _⟩ := I.list ha
      obtain ⟨its', ry, ⟨o', k', ho', hc', _, hd'⟩, _⟩ := I.list hb
      have l1 := he.length
      have l2 := rx.length
      have l3 := ry.length
      by_cases e : a = b
      · subst e; exact .same _
      · have := SeqAt.RcAt.lists (A := A) (e := fun _ => true) ⟨o, ho, hc, k, hd⟩ ⟨o', ho', hc', k', hd'⟩ (by simp; omega) (by omega) (fun j h1 h2 => by
          have h1' : j < its.length := by simpa using h1
          have h2' : j < its'.length := by simpa using h2
          obtain ⟨x, ex, r1⟩ := vals_at rx h1'
          obtain ⟨y, ey, r2⟩ := vals_at ry h2'
          have hu' : A.in1.units + n < cLine := by show A.units + 1 + n < cLine; omega
          have := ih A.in1 x y _ _ (he.get ex ey) r1 r2 hu'
          simpa using this)
        have e2 : (List.range its.toArray.size).all (fun _ => true) = true := by simp
        rw [e2] at this
        exact .of_refs e this
end
/-- two tuples or two lists that are surely equal -/
def SameIn (K : PySem.W.Frag) (H : Hp) (x y : V) : Prop := ∃ (a b : Addr) (xs ys : List V) (n : Nat), x = .ref a ∧ y = .ref b ∧ n ≤ 60 ∧ ((SqT K H a xs ∧ SqT K H b ys) ∨ (SqL K H a xs ∧ SqL K H b ys)) ∧ EqVs K H n xs ys
def rEqS (K : PySem.W.Frag) : R2 := fun x y H Q => SameIn K H x y ∧ Q (.bl true) H
def rNeS (K : PySem.W.Frag) : R2 := fun x y H Q => SameIn K H x y ∧ Q (.bl false) H
section
variable {X : Cx}
theorem op_eqS (hu : X.A.units + 64 < cLine) : OpR X (compareOp .Eq) (rEqS X.K) := by
  intro pins s σ H x y v u Q I rx ry h
  obtain ⟨⟨a, b, xs, ys, n, rfl, rfl, hn, hs, he⟩, q⟩ := h
  cases rx; cases ry
  have item : ∀ {its its' : List Value}, Vals xs its → Vals ys its' → ∀ j (h1 : j < its.toArray.size) (h2 : j < its'.toArray.size), SeqAt.EqAt X.A.in1 s its.toArray[j] its'.toArray[j] true := fun {its its'} rx ry j h1 h2 => by
    have h1' : j < its.length := by simpa using h1
    have h2' : j < its'.length := by simpa using h2
    obtain ⟨x, ex, r1⟩ := vals_at rx h1'
    obtain ⟨y, ey, r2⟩ := vals_at ry h2'
    have hu' : X.A.in1.units + n < cLine := by show X.A.units + 1 + n < cLine; omega
    have := eqv_at I n X.A.in1 x y _ _ (he.get ex ey) r1 r2 hu'
    simpa using this
  rcases hs with ⟨ha, hb⟩ | ⟨ha, hb⟩
  · obtain ⟨its, rx, ⟨o, ho, hc, k, hd⟩, _⟩ := I.tuple ha
    obtain ⟨its', ry, ⟨o', ho', hc', k', hd'⟩, _⟩ := I.tuple hb
    have l1 := he.length
    have l2 := rx.length
    have l3 := ry.length
    have e2 : ((List.range (min its.toArray.size its'.toArray.size)).all (fun _ => true) && its.toArray.size == its'.toArray.size) = true := by
      rw [Bool.and_eq_true]
      refine ⟨by simp, ?_⟩
      simp
      omega
    have := SeqAt.RcAt.tuples (A := X.A) (e := fun _ => true) ⟨o, ho, hc, k, hd⟩ ⟨o', ho', hc', k', hd'⟩ (by omega) (item rx ry)
    rw [e2] at this
    exact this _ _ _ _ ⟨.bl _, H, I, rfl, q⟩
  · obtain ⟨its, rx, ⟨o, k, ho, hc, _, hd⟩, _⟩ := I.list ha
    obtain ⟨its', ry, ⟨o', k', ho', hc', _, hd'⟩, _⟩ := I.list hb
    have l1 := he.length
    have l2 := rx.length
    have l3 := ry.length
    have e2 : (List.range its.toArray.size).all (fun _ => true) = true := by simp
    have := SeqAt.RcAt.lists (A := X.A) (e := fun _ => true) ⟨o, ho, hc, k, hd⟩ ⟨o', ho', hc', k', hd'⟩ (by simp; omega) (by omega) (item rx ry)
    rw [e2] at this
    exact this _ _ _ _ ⟨.bl _, H, I, rfl, q⟩
theorem op_neS (hu : X.A.units + 64 < cLine) : OpR X (compareOp .NotEq) (rNeS X.K) := by
  intro pins s σ H x y v u Q I rx ry h
  obtain ⟨⟨a, b, xs, ys, n, rfl, rfl, hn, hs, he⟩, q⟩ := h
  cases rx; cases ry
  have item : ∀ {its its' : List Value}, Vals xs its → Vals ys its' → ∀ j (h1 : j < its.toArray.size) (h2 : j < its'.toArray.size), SeqAt.EqAt X.A.in1 s its.toArray[j] its'.toArray[j] true := fun {its its'} rx ry j h1 h2 => by
    have h1' : j < its.length := by simpa using h1
    have h2' : j < its'.length := by simpa using h2
    obtain ⟨x, ex, r1⟩ := vals_at rx h1'
    obtain ⟨y, ey, r2⟩ := vals_at ry h2'
    have hu' : X.A.in1.units + n < cLine := by show X.A.units + 1 + n < cLine; omega
    have := eqv_at I n X.A.in1 x y _ _ (he.get ex ey) r1 r2 hu'
    simpa using this
  rcases hs with ⟨ha, hb⟩ | ⟨ha, hb⟩
  · obtain ⟨its, rx, ⟨o, ho, hc, k, hd⟩, _⟩ := I.tuple ha
    obtain ⟨its', ry, ⟨o', ho', hc', k', hd'⟩, _⟩ := I.tuple hb
    have l1 := he.length
    have l2 := rx.length
    have l3 := ry.length
    have e2 : (!((List.range (min its.toArray.size its'.toArray.size)).all (fun _ => true) && its.toArray.size == its'.toArray.size)) = false := by
      rw [Bool.not_eq_false', Bool.and_eq_true]
      refine ⟨by simp, ?_⟩
      simp
      omega
    have := SeqAt.RcNeAt.tuples (A := X.A) (e := fun _ => true) ⟨o, ho, hc, k, hd⟩ ⟨o', ho', hc', k', hd'⟩ (by omega) (item rx ry)
    rw [e2] at this
    exact this _ _ _ _ ⟨.bl _, H, I, rfl, q⟩
  · obtain ⟨its, rx, ⟨o, k, ho, hc, _, hd⟩, _⟩ := I.list ha
    obtain ⟨its', ry, ⟨o', k', ho', hc', _, hd'⟩, _⟩ := I.list hb
    have l1 := he.length
    have l2 := rx.length
    have l3 := ry.length
    have e2 : (!(List.range its.toArray.size).all (fun _ => true)) = false := by simp
    have := SeqAt.RcNeAt.lists (A := X.A) (e := fun _ => true) ⟨o, ho, hc, k, hd⟩ ⟨o', ho', hc', k', hd'⟩ (by simp; omega) (by omega) (item rx ry)
    rw [e2] at this
    exact this _ _ _ _ ⟨.bl _, H, I, rfl, q⟩
end
/-! ## a tuple of one, so many times -/
end Ts
namespace Ts
open PySem PySem.Spec PyProof.Rows L2 L2H LamX
/-! ## what is never come to -/
/-! ## questions that are refused -/
/-! ## lists of what was caught -/
def Flat (v : V) : Prop := (∃ a, v = .ref a) ∨ v = .non ∨ (∃ b, v = .bl b) ∨ (∃ i, v = .int i) ∨ ∃ t, v = .str t
inductive PairsV (H : Hp) : List V → List (Str × V) → Prop
  | nil : PairsV H [] []
  | cons {x : V} {w : Str × V} {xs : List V} {ws : List (Str × V)} : (∃ p, x = .ref p ∧ H p = some (.tup [.str w.1, w.2])) → PairsV H xs ws → PairsV H (x :: xs) (w :: ws)
theorem PairsV.imp {H H' : Hp} (h : ∀ p vs, H p = some (.tup vs) → H' p = some (.tup vs)) : ∀ {xs : List V} {ws : List (Str × V)}, PairsV H xs ws → PairsV H' xs ws
  | _, _, .nil => .nil
  | _, _, .cons ⟨p, e, hp⟩ t => .cons ⟨p, e, h _ _ hp⟩ (t.imp h)
theorem PairsV.ext {H H' : Hp} {xs : List V} {ws : List (Str × V)} (h : PairsV H xs ws) (x : ExtN H H') : PairsV H' xs ws := h.imp fun _ _ e => x _ _ e fun _ z => by cases z
theorem PairsV.mono {H H' : Hp} {xs : List V} {ws : List (Str × V)} (h : PairsV H xs ws) (x : Same H H') : PairsV H' xs ws := h.imp fun _ _ e => x _ _ e
theorem PairsV.snoc {H : Hp} {x : V} {w : Str × V} (hx : ∃ p, x = .ref p ∧ H p = some (.tup [.str w.1, w.2])) : ∀ {xs : List V} {ws : List (Str × V)}, PairsV H xs ws → PairsV H (xs ++ [x]) (ws ++ [w])
  | _, _, .nil => .cons hx .nil
  | _, _, .cons h t => .cons h (t.snoc hx)
theorem PairsV.length {H : Hp} : ∀ {xs : List V} {ws : List (Str × V)}, PairsV H xs ws → xs.length = ws.length
  | _, _, .nil => rfl
  | _, _, .cons _ t => by rw [List.length_cons, List.length_cons, t.length]
theorem PairsV.take {H : Hp} : ∀ (n : Nat) {xs : List V} {ws : List (Str × V)}, PairsV H xs ws → PairsV H (xs.take n) (ws.take n)
  | 0, _, _, _ => .nil
  | _ + 1, _, _, .nil => .nil
  | n + 1, _, _, .cons h t => .cons h (t.take n)
theorem PairsV.get {H : Hp} : ∀ {xs : List V} {ws : List (Str × V)} {i : Nat} {w : Str × V}, PairsV H xs ws → ws[i]? = some w → ∃ p, xs[i]? = some (.ref p) ∧ H p = some (.tup [.str w.1, w.2])
  | _, _, 0, _, .cons ⟨p, e, h⟩ _, z => by cases z; exact ⟨p, congrArg some e, h⟩
  | _, _, i + 1, _, .cons _ t, z => t.get (i := i) z
  | _, _, _, _, .nil, z => by simp at z
theorem pair_eq {K : PySem.W.Frag} {H : Hp} {p q : Addr} {t : Str} {u v : V} (h1 : H p = some (.tup [.str t, u])) (h2 : H q = some (.tup [.str t, v])) (e : EqV K H 1 u v) : EqV K H 2 (.ref p) (.ref q) :=
  .tup (SqT.of h1) (SqT.of h2) (.cons (.str t) (.cons e .nil))
theorem PairsV.eqs {K : PySem.W.Frag} {H : Hp} : ∀ {xs ys : List V} {ws : List (Str × V)}, PairsV H xs ws → PairsV H ys ws → (∀ w ∈ ws, Flat w.2) → EqVs K H 2 xs ys
  | _, _, _, .nil, .nil, _ => .nil
  | _, _, _, .cons ⟨p, e1, h1⟩ t1, .cons ⟨q, e2, h2⟩ t2, h => by
    subst e1 e2
    exact .cons (pair_eq h1 h2 (EqV.refl (h _ List.mem_cons_self))) (t1.eqs t2 fun w hw => h w (List.mem_cons_of_mem _ hw))
structure Told (T : List (Addr × Str)) (H0 Hn : Hp) (lt : Addr) (xs : List V) (ws : List (Str × V)) : Prop where
  x : ExtN H0 Hn
  T : Tabs T Hn
  l : Hn lt = some (.lst xs)
  ps : PairsV Hn xs ws
  nw : ∀ o, H0 lt = some o → ∃ q, o = .tbl q
theorem Told.first {T : List (Addr × Str)} {lt l1 : Addr} {H0 H6 H7 : Hp} {w : Str × V} (x : ExtN H0 H6) (T6 : Tabs T H6) (s7 : Same H6 H7) (g : H7 l1 = some (.tup [.str w.1, w.2])) (hl : H7 lt = none) :
    Told T H0 (upd H7 lt (.lst [.ref l1])) lt [.ref l1] [w] := by
  have sn : Same H7 (upd H7 lt (.lst [.ref l1])) := same_new hl
  refine ⟨(x.trans (ExtN.of s7)).trans (ExtN.of sn), (T6.ext s7).ext sn, upd_same, .cons ⟨l1, rfl, sn _ _ g⟩ .nil, fun o e => ?_⟩
  by_cases c : ∃ q, o = .tbl q
  · exact c
  · have := s7 _ _ (x _ _ e fun q z => c ⟨q, z⟩)
    rw [hl] at this; cases this
theorem Told.next {T : List (Addr × Str)} {lt l : Addr} {H0 Hn H6 H7 : Hp} {xs : List V} {ws : List (Str × V)} {w : Str × V} (h : Told T H0 Hn lt xs ws) (x : ExtN Hn H6) (T6 : Tabs T H6) (s7 : Same H6 H7) (g : H7 l = some (.tup [.str w.1, w.2])) :
    Told T H0 (upd H7 lt (.lst (xs ++ [.ref l]))) lt (xs ++ [.ref l]) (ws ++ [w]) := by
  have x7 := x.trans (ExtN.of s7)
  have hl : H7 lt = some (.lst xs) := x7 _ _ h.l fun _ z => by cases z
  have nt : ∀ p vs, H7 p = some (.tup vs) → (upd H7 lt (.lst (xs ++ [.ref l]))) p = some (.tup vs) := fun p vs e => by
    rw [upd_ne (fun z => by rw [z, hl] at e; cases e)]; exact e
  refine ⟨fun a o e n => ?_, tabs_lst (T6.ext s7) hl But.set, upd_same, ((h.ps.ext x7).imp nt).snoc ⟨l, rfl, nt _ _ g⟩, h.nw⟩
  rw [upd_ne (fun z => by subst z; obtain ⟨q, z2⟩ := h.nw _ e; exact n q z2)]
  exact (h.x.trans x7) a o e n
theorem caught_by {K : PySem.W.Frag} {c : Cls9} {b : Bas3} {tl : XK → Hp → VK → Prop} {H : Hp} {Q : VK} (h : tl (CaughtE K c b Q) H (CaughtQ Q)) : TTcaught K c b tl H Q := ⟨_, _, h, fun _ _ _ z => z, fun _ _ z => z⟩
/-! ## what the law asks -/
def spOddJ (K : PySem.W.Frag) : Sp := fun vs H Q _ => ∃ b : Addr, vs = [.ref b] ∧ Bas H b ∧ ∀ v H', But b H H' → Bas H' b → NoLot K (hid b H') v → Flat v → Q v H'
/-! ## what stays whatever is drawn or caught -/
theorem hid_hid2 {b : Addr} {H : Hp} : ExtN (hid b H) (hid2 b H) := fun a o e n => by
  have hb : a ≠ b := fun z => by
    subst z
    have : hid a H a = none := by unfold hid; rw [if_pos rfl]
    rw [this] at e; cases e
  exact hid2_of hb n ((hid_ne hb).symm.trans e)
structure St34 (K : PySem.W.Frag) (C b x : Addr) (n : Nat) (js : List Job) (v : V) (H : Hp) : Prop where
  B : Bas H b
  L : LotAt K C (hid2 b H) x n js
  N : NoLot K (hid2 b H) v
theorem St34.step {K : PySem.W.Frag} {C b x : Addr} {n : Nat} {js : List Job} {v : V} {H H' : Hp} (h : St34 K C b x n js v H) (e : Ext2 b H H') (B : Bas H' b) : St34 K C b x n js v H' := ⟨B, h.L.mono e.hid, h.N.mono e.hid⟩
theorem St34.same {K : PySem.W.Frag} {C b x : Addr} {n : Nat} {js : List Job} {v : V} {H H' : Hp} (h : St34 K C b x n js v H) (s : Same H H') : St34 K C b x n js v H' := h.step (Ext2.same s) (h.B.on s)
theorem St34.ext {K : PySem.W.Frag} {C b x : Addr} {n : Nat} {js : List Job} {v : V} {H H' : Hp} (h : St34 K C b x n js v H) (s : ExtN H H') : St34 K C b x n js v H' := h.step (Ext2.ext s) (h.B.ext s)
def Bad34 (K : PySem.W.Frag) (H : Hp) (js : List Job) (v : V) : Prop := ∃ o, AnyV K H v o ∧ stB js 0 o = false ∧ Flat v
theorem Bad34.mono {K : PySem.W.Frag} {H H' : Hp} {js : List Job} {v : V} (h : Bad34 K H js v) (s : Same H H') : Bad34 K H' js v := by
  obtain ⟨o, h1, h2, h3⟩ := h
  exact ⟨o, h1.mono s, h2, h3⟩
theorem Bad34.ext {K : PySem.W.Frag} {H H' : Hp} {js : List Job} {v : V} (h : Bad34 K H js v) (s : ExtN H H') : Bad34 K H' js v := by
  obtain ⟨o, h1, h2, h3⟩ := h
  exact ⟨o, h1.ext s, h2, h3⟩
end Ts
namespace Ts
open PySem PySem.Spec PyProof.Rows L2 LamX
/-! ## the head by facts: defs where they stand, one Bool of facts, tables of code -/
structure DefF where
  adr : PySem.W.Frag → Addr
  name : Str
  qual : Str
  st : Stmt
def DefF.said (d : DefF) : He.FnV := some (d.name, d.qual, defArgs d.st, .stmts (defBody d.st), defScope d.st, mainGlobals, [], .none, builtinsNs)
def seenF (K : PySem.W.Frag) (a : Addr) : He.FnV := match K.lookup a with
  | some o => (match o.data with
    | .func fd => some (fd.name, fd.qualname, fd.params, fd.body, fd.scope, fd.globals, fd.closure, fd.defaults, fd.builtins)
    | _ => none)
  | none => none
def codeF (K : PySem.W.Frag) (a : Addr) (q : Str) : Bool := match K.lookup a with
  | some o => (match o.data with
    | .func fd => PySem.W.codeIn K fd.code q
    | _ => false)
  | none => false
theorem defF_ok {K : PySem.W.Frag} {d : DefF} (e : seenF K (d.adr K) = d.said) (c : codeF K (d.adr K) d.qual = true) :
    ∃ (oc : Value) (od : Option Addr) (sl : Array (Option Value)) (kV dc pm : Value) (an : Option Addr) (cd ct : Value), K.lookup (d.adr K) = some ⟨oc, od, .func (PySem.W.fnOf d.name d.qual (defArgs d.st) (defBody d.st) (defScope d.st) .none kV dc pm an cd ct), sl⟩ ∧ PySem.W.codeIn K cd d.qual = true := by
  unfold seenF at e
  unfold codeF at c
  cases hl : K.lookup (d.adr K) with
  | none => rw [hl] at c; cases c
  | some o =>
    obtain ⟨oc, od, dt, sl⟩ := o
    rw [hl] at c e
    cases dt with
    | func fd =>
      obtain ⟨m1, m2, m3, m4, m5, m6, m7, m8, m9, p1, p2, p3, p4, p5, p6⟩ := fd
      have e9 : (some (m1, m2, m3, m4, m5, m6, m7, m8, p6) : He.FnV) = some (d.name, d.qual, defArgs d.st, .stmts (defBody d.st), defScope d.st, mainGlobals, [], .none, builtinsNs) := e
      simp only [Option.some.injEq, Prod.mk.injEq] at e9
      obtain ⟨rfl, rfl, rfl, rfl, rfl, rfl, rfl, rfl, rfl⟩ := e9
      exact ⟨oc, od, sl, m9, p1, p2, p3, p4, p5, rfl, c⟩
    | _ => cases c
/-- a def's code object and its table -/
def codeAd (K : PySem.W.Frag) (f : Addr) : Addr := match K.lookup f with
  | some o => (match o.data with
    | .func fd => (match fd.code with
      | .ref c => c
      | _ => 0)
    | _ => 0)
  | none => 0
def tabAd (K : PySem.W.Frag) (c : Addr) : Addr := match K.lookup c with
  | some o => (match o.data with
    | .fields vs => (match vs.getD 11 .none with
      | .ref p => p
      | _ => 0)
    | _ => 0)
  | none => 0
theorem codeAd_ok {K : PySem.W.Frag} {f : Addr} {o : Obj} {fd : FuncData} (l : K.lookup f = some o) (e : o.data = .func fd) {q : Str} (c : PySem.W.codeIn K fd.code q = true) : fd.code = .ref (codeAd K f) := by
  unfold codeAd
  rw [l]
  show fd.code = .ref (match o.data with | .func fd => (match fd.code with | .ref c => c | _ => 0) | _ => 0)
  rw [e]
  cases h : fd.code with
  | ref z => show Value.ref z = .ref (match fd.code with | .ref c => c | _ => 0); rw [h]
  | _ => rw [h] at c; cases c
/-- the token of a number or a text of the top -/
def tokAd (K : PySem.W.Frag) (x : Str) : Tok := match PySem.W.nsIn K mainGlobals x with
  | some (some (.int _ t)) => t
  | some (some (.str _ t)) => t
  | _ => default
/-- what a property's object was made of -/
def getAd (K : PySem.W.Frag) (p : Addr) : Addr := match PySem.W.recIn K p "property" with
  | some (.ref f :: _) => f
  | _ => 0
def restAd (K : PySem.W.Frag) (p : Addr) : List Value := match PySem.W.recIn K p "property" with
  | some (_ :: r) => r
  | _ => []
abbrev AlF : Type := Bool × List He.FnV
def okF (fn : List DefF) (tf : List (PySem.W.Frag → Addr × Addr)) (ex : PySem.W.Frag → Bool) (g : Addr → Option Obj) (K : PySem.W.Frag) : Bool :=
  (fn.all fun d => codeF K (d.adr K) d.qual) && (ex K && tf.all fun p => PySem.W.codeHdIn K (p K).1 (p K).2 && (match g (p K).2 with
    | some o => He.emptyTab o
    | none => false))
def lookF (fn : List DefF) (tf : List (PySem.W.Frag → Addr × Addr)) (ex : PySem.W.Frag → Bool) (g : Addr → Option Obj) (K : PySem.W.Frag) : AlF := (okF fn tf ex g K, fn.map fun d => seenF K (d.adr K))
def dueF (fn : List DefF) : AlF := (true, fn.map DefF.said)
structure SaysF (fn : List DefF) (tf : List (PySem.W.Frag → Addr × Addr)) (ex : PySem.W.Frag → Bool) (h : Heap) (K : PySem.W.Frag) : Prop where
  fns : fn.map (fun d => seenF K (d.adr K)) = fn.map DefF.said
  codes : ∀ d ∈ fn, codeF K (d.adr K) d.qual = true
  more : ex K = true
  heads : ∀ p ∈ tf, PySem.W.codeHdIn K (p K).1 (p K).2 = true
  outs : ∀ p ∈ tf, K.lookup (p K).2 = none
  empties : ∀ p ∈ tf, h.get? (p K).2 = some { cls := .none, data := .fields #[] }
theorem SaysF.def_ {fn : List DefF} {tf : List (PySem.W.Frag → Addr × Addr)} {ex : PySem.W.Frag → Bool} {h : Heap} {K : PySem.W.Frag} (S : SaysF fn tf ex h K) (i : Nat) {d : DefF} (hi : fn[i]? = some d := by rfl) :
    ∃ (oc : Value) (od : Option Addr) (sl : Array (Option Value)) (kV dc pm : Value) (an : Option Addr) (cd ct : Value), K.lookup (d.adr K) = some ⟨oc, od, .func (PySem.W.fnOf d.name d.qual (defArgs d.st) (defBody d.st) (defScope d.st) .none kV dc pm an cd ct), sl⟩ ∧ PySem.W.codeIn K cd d.qual = true := by
  have e : (fn.map fun d => seenF K (d.adr K))[i]? = (fn.map DefF.said)[i]? := by rw [S.fns]
  rw [List.getElem?_map, List.getElem?_map, hi] at e
  exact defF_ok (Option.some.inj e) (S.codes d (List.mem_of_getElem? hi))
theorem saysF_of {as : List Addr} {fn : List DefF} {tf : List (PySem.W.Frag → Addr × Addr)} {ex : PySem.W.Frag → Bool} {h : Heap} (e : lookF fn tf ex h.get? (He.frT h.get? as) = dueF fn) : SaysF fn tf ex h (He.frT h.get? as) := by
  have e1 := (Prod.mk.inj e).1
  have e2 := (Prod.mk.inj e).2
  unfold okF at e1
  obtain ⟨z1, z2⟩ := He.ba e1
  obtain ⟨z3, z4⟩ := He.ba z2
  have key : ∀ p ∈ tf, PySem.W.codeHdIn (He.frT h.get? as) (p (He.frT h.get? as)).1 (p (He.frT h.get? as)).2 = true ∧
      ∃ o, h.get? (p (He.frT h.get? as)).2 = some o ∧ He.emptyTab o = true := fun p hp => by
    obtain ⟨y1, y2⟩ := He.ba (List.all_eq_true.mp z4 p hp)
    refine ⟨y1, ?_⟩
    cases q : h.get? (p (He.frT h.get? as)).2 with
    | none => rw [q] at y2; cases y2
    | some o => rw [q] at y2; exact ⟨o, rfl, y2⟩
  exact ⟨e2, fun d hd => List.all_eq_true.mp z1 d hd, z3, fun p hp => (key p hp).1,
    fun p hp => let ⟨_, _, q, z⟩ := key p hp; He.frT_none q z,
    fun p hp => let ⟨_, _, q, z⟩ := key p hp; by rw [q, He.emptyTab_eq z]⟩
/-- the run of the top by the library's twins -/
noncomputable abbrev topF (r : PySem.W.OpenRow) (M : Nat) (w : World) : Option (Shared × PySem.W.SharedT) := HandSHeadRun.wholeF (fun p => HandSHeadRun.stepQ (HandSHeadRun.denQ HandSHeadRun.tabQ) p w) HandSHeadRun.fenceQ M r.prog
/-- its equation, asked in two parts -/
theorem run_two {r : PySem.W.OpenRow} {q : Program} {H : PySem.W.Hook} {ob : PySem.W.SharedT → H.α} {M : Nat} {loose : List Str} {w : World}
    (h1 : (topF r M w).map (fun x => (HandSHeadRun.looksF r.prog x.1.heap x.2.abs, HandSHeadRun.seenQ q loose (importedModules r.prog.main.body) (fun s => PySem.W.xlAt q [] s && PySem.W.recOk r.toRowW.records s) x.2.abs)) = some (true, PySem.W.openGood q loose))
    (h2 : (topF r M w).map (fun x => ob x.2) = some (H.val w)) : HandSHeadRun.RunEqI r q H ob M loose w := by
  show (topF r M w).map _ = _
  revert h1 h2
  generalize topF r M w = o
  intro h1 h2
  cases o with
  | none => cases h1
  | some x =>
    have a := Prod.mk.inj (Option.some.inj h1)
    have b := Option.some.inj h2
    exact congrArg some (Prod.ext a.1 (Prod.ext a.2 b))
/-! ### the law is called, over such a head -/
theorem walk_GFT {l : PySem.W.OpenLaw} {k : Nat} {q : Program} {loose : List Str} {XP : (Str → Option Value) → Heap → Prop} {YP : World → Heap → Prop} {d : DefRec} {x : Str}
    (most : l.most = some 63) (plain : d.params.defaults = []) (room : Room k callerA)
    (F : ∀ (w : World) (mg : Str → Option Value) (fa : Addr) (h : Heap), YP w h → h.Ns mainGlobals mg → mg d.name = some (.ref fa) →
      ∃ (K : PySem.W.Frag) (fd : FuncData) (cs : List (Addr × Addr)) (T : List (Addr × Str)), K.In h ∧ (∀ p ∈ cs, PySem.W.codeHdIn K p.1 p.2 = true) ∧ (∀ p ∈ cs, K.lookup p.2 = none) ∧
        (∀ p ∈ cs, h.get? p.2 = some { cls := .none, data := .fields #[] }) ∧ (∀ p ∈ T, ∃ c, (c, p.1) ∈ cs) ∧ (∀ (s : Shared) (u : Value), BindsTo s fd ⟨[u], []⟩ [(x, u)]) ∧
        ∀ base : Heap, (∀ p ∈ cs, TabB base mg p.1 p.2) → FnG l.prog w K mg base k fa fd [x] (spLawT K T)) :
    PySem.W.WalkO q loose XP YP l.row.toRowW d [] (fun f vs => PySem.call f vs) := by
  refine Att.attach_call most plain fun w s t mg mb fa o pm cd doc a vs ns G Y ho hd hcd hmg hobj hints hlen hg => ?_
  obtain ⟨K, fd, cs, T, inK, h1, h2, h3, h4, bind, hF⟩ := F w mg fa _ Y G.T.g hmg
  refine end_GT (cs := cs) inK G.T.g G.T.b G.T.builtins G.T.nolimit hg h3 h2 (fun p hp => PySem.W.codeHd_of_K inK (h1 p hp)) G.T.bmain hobj hints (Nat.le_trans hlen (by decide)) room (fun base _ _ tbb => hF base tbb) bind fun H hTT hS => ⟨a, ns, rfl, hS, hlen, fun p hp => ?_, fun _ => rfl⟩
  obtain ⟨c, hc⟩ := h4 p hp
  exact hTT _ hc
end Ts
namespace Ts
open PySem PySem.Spec PyProof.Rows L2 LamX
/-! ## the head by facts, with tables of the top (dicts with text keys) -/
abbrev AlW : Type := AlF × List (Option (List (Option (Str × Int))))
def lookW (fn : List DefF) (tf : List (PySem.W.Frag → Addr × Addr)) (ex : PySem.W.Frag → Bool) (ts : List He.Tab) (g : Addr → Option Obj) (K : PySem.W.Frag) : AlW := (lookF fn tf ex g K, ts.map fun t => He.dicW K (t.1 K))
def dueW (fn : List DefF) (ts : List He.Tab) (w : World) : AlW := (dueF fn, ts.map fun t => some (He.keysIn w.params t.2))
def TabsW (ts : List He.Tab) (w : World) (K : PySem.W.Frag) : Prop := (ts.map fun t => He.dicW K (t.1 K)) = ts.map fun t => some (He.keysIn w.params t.2)
theorem TabsW.dict {ts : List He.Tab} {w : World} {K : PySem.W.Frag} (c : TabsW ts w K) (i : Nat) {t : He.Tab} (h : ts[i]? = some t := by rfl) : ∃ es n, KDict K w (t.1 K) es n := by
  have e2 : (ts.map fun t => He.dicW K (t.1 K))[i]? = (ts.map fun t => some (He.keysIn w.params t.2))[i]? := by rw [c]
  rw [List.getElem?_map, List.getElem?_map, h] at e2
  exact He.dicW_ok (Option.some.inj e2)
def hookW (as : List Addr) (fn : List DefF) (tf : List (PySem.W.Frag → Addr × Addr)) (ex : PySem.W.Frag → Bool) (ts : List He.Tab) : PySem.W.Hook where
  α := AlW
  obs := fun s => lookW fn tf ex ts s.heap.get? (He.frT s.heap.get? as)
  val := fun w => dueW fn ts w
  says := fun w h => ∃ K : PySem.W.Frag, K.In h ∧ SaysF fn tf ex h K ∧ TabsW ts w K
  of := fun _ _ e => ⟨_, He.frT_in, saysF_of (congrArg (fun z : AlW => z.1) e), congrArg (fun z : AlW => z.2) e⟩
  keeps := fun _ _ _ ⟨K, hK, c, d⟩ k => ⟨K, PySem.W.Frag.In.keeps hK k, ⟨c.fns, c.codes, c.more, c.heads, c.outs, fun p hp => k _ _ (c.empties p hp)⟩, d⟩
def viewW (as : List Addr) (fn : List DefF) (tf : List (PySem.W.Frag → Addr × Addr)) (ex : PySem.W.Frag → Bool) (ts : List He.Tab) (g : Addr → Option Obj) : AlW := lookW fn tf ex ts g (He.frT g as)
theorem viewW_eq {as : List Addr} {fn : List DefF} {tf : List (PySem.W.Frag → Addr × Addr)} {ex : PySem.W.Frag → Bool} {ts : List He.Tab} (s : PySem.W.SharedT) : viewW as fn tf ex ts (HandSHeadRun.getT s) = (hookW as fn tf ex ts).obs s.abs := by
  have e : HandSHeadRun.getT s = s.abs.heap.get? := funext (HandSHeadRun.getT_eq s)
  show lookW fn tf ex ts (HandSHeadRun.getT s) (He.frT (HandSHeadRun.getT s) as) = lookW fn tf ex ts s.abs.heap.get? (He.frT s.abs.heap.get? as)
  rw [e]
/-! ## a tuple of texts of the top -/
def strOf : Value → Option Str
  | .str x _ => some x
  | _ => none
def strsIn (K : PySem.W.Frag) (a : Addr) : Option (List (Option Str)) := match K.lookup a with
  | some ⟨.type c, _, .seq its _, _⟩ => if c = "tuple" ∧ its.size ≤ 1000 then some (its.toList.map strOf) else none
  | _ => none
end Ts
namespace Ts
open PySem PySem.Spec PyProof.Rows L2 L2H LamX
/-! ## a range object that a name holds, walked -/
def iRgV (tl : TE) : TI := fun σ H R => tl σ H fun x H1 => ∃ (a : Addr) (lo hi : Int), x = .ref a ∧ H1 a = some (.rng lo hi) ∧ (-(2 ^ 62) ≤ lo ∧ lo < 2 ^ 62 ∧ -(2 ^ 62) ≤ hi ∧ hi < 2 ^ 62) ∧ R (Itr lo (hi - lo).toNat) H1
theorem pi_rgV {X : Cx} {tg l : Expr} {tl : TE} (hl : PE X l tl) : PI X tg l (iRgV tl) := by
  refine ⟨fun pins s σ H R I h => ?_⟩
  refine thn (hl.run pins s σ H _ I h) fun v s1 ⟨x, H1, I1, r1, q1⟩ => ?_
  obtain ⟨a, lo, hi, e, ha, ⟨h1, h2, h3, h4⟩, q⟩ := q1
  subst e
  cases r1
  obtain ⟨t1, t2, t3, ho⟩ := I1.hok a _ ha
  refine wpAny_pyIter_range (show IsRange s1.heap a lo hi 1 t1 t2 t3 from ho) (small_one h1 h2 h3 h4) ?_
  refine ⟨s1.heap.objs.size, [s1.heap.objs.size], _, _, H1, rfl, I1.kept (t' := s1.toks) fun b o e => Heap.get?_push_of_some _ e, turn_range _ lo (hi - lo).toNat, ?_, fun b hb => ?_, q⟩
  · have e1 : lo + ((0 : Nat) : Int) * 1 = lo := by simp
    have e2 : (((hi - lo).toNat : Nat) : Int) - ((0 : Nat) : Int) = Builtin.Range.rangeSize lo hi 1 := by rw [rangeSize_one]; split <;> omega
    show IsRangeIter _ _ (lo + ((0 : Nat) : Int) * 1) ((((hi - lo).toNat : Nat) : Int) - ((0 : Nat) : Int)) 1
    rw [e1, e2]
    exact Heap.get?_push_size _ rfl
  · have e : b = s1.heap.objs.size := by simpa using hb
    subst e
    exact I1.fpOk (Nat.le_refl _) (I1.hok.fresh (Nat.le_refl _))
/-! ## zip of two tuples -/
/-! ## what a rule goes by -/
def ruleW : List Str := ["nearest", "overlap", "keen", "behind"]
def rankI (r e p span : Nat) (t m : Int) : List Int := match r with
  | 0 => [borI e p t - m]
  | 1 => [borI e p t - m, if overI e p t = true then 0 else 1]
  | 2 => if overI e p t = true then [borI e p t - m, 0, if 0 < gborI e p t then m - gborI e p t else 0] else [borI e p t - m, 1, 0]
  | _ => [(t - 1) * (span : Int) - (m + 1) * (e : Int) * ((span / p : Nat) : Int)]
def spRankF (K : PySem.W.Frag) (r : Nat) : Sp := fun vs H Q _ => ∃ (v : V) (e p span : Nat) (t m : Int), vs = [v, .int t, .int m, .int (span : Int)] ∧ Dp K H v (partD e p) ∧ GoodPart 16 e p ∧ span ≤ 1000000 ∧
  ∀ (a : Addr) (H' : Hp), H a = none → Same H H' → H' a = some (.tup ((rankI r e p span t m).map V.int)) → Q (.ref a) H'
/-- turn i + 1 in its ticks -/
def ticksL (r e p span i : Nat) : List (List Int) := (List.range (borI e p ((i : Int) + 1) - begI e p ((i : Int) + 1)).toNat).map fun k : Nat => rankI r e p span ((i : Int) + 1) (begI e p ((i : Int) + 1) + (k : Int))
def spRanksOf (K : PySem.W.Frag) : Sp := fun vs H Q _ => ∃ (v : V) (r e p span i : Nat) (x : Str), vs = [v, .str x, .int (span : Int), .int ((i : Int) + 1)] ∧ ruleW[r]? = some x ∧ Dp K H v (partD e p) ∧ GoodPart 16 e p ∧ i < 16 ∧ span ≤ 1000000 ∧
  ∀ (a : Addr) (us : List V) (H' : Hp), H a = none → Same H H' → H' a = some (.lst us) → DpAll K (hid a H') us ((ticksL r e p span i).map rowD) → Q (.ref a) H'
def lensL (e p : Nat) : List Int := (List.range e).map fun i : Nat => borI e p ((i : Int) + 1) - begI e p ((i : Int) + 1)
def gapsL (e p : Nat) : List Int := (List.range e).map fun i : Nat => begI e p ((i : Int) + 1 + 1) - begI e p ((i : Int) + 1)
def ranksD (r e p span : Nat) : PyData := .list ((List.range e).map fun i : Nat => .list ((ticksL r e p span i).map rowD))
theorem tupD_rw (r : List Int) : TupD (rowD r) := .tup fun d hd => by
  obtain ⟨i, _, rfl⟩ := List.mem_map.mp hd
  exact .int i
structure PaceC (K : PySem.W.Frag) (mg : Str → Option Value) (C : Addr) : Prop where
  cl : Cls K C
  nlengths : PySem.W.findIn K (.ref C) "lengths" = some none
  ngaps : PySem.W.findIn K (.ref C) "gaps" = some none
  nranks : PySem.W.findIn K (.ref C) "ranks" = some none
  mgC : mg "Pace" = some (.ref C)
structure PaceAt (K : PySem.W.Frag) (C : Addr) (H : Hp) (a : Addr) (r e p span : Nat) : Prop where
  ex : ∃ dx fs, H a = some (.ins C dx fs) ∧ (∃ q, fs.lookup ("lengths" : Str) = some (.ref q) ∧ SqL K H q ((lensL e p).map V.int)) ∧ (∃ q, fs.lookup ("gaps" : Str) = some (.ref q) ∧ SqL K H q ((gapsL e p).map V.int)) ∧
    (∃ v, fs.lookup ("ranks" : Str) = some v ∧ Dp K H v (ranksD r e p span)) ∧ fs.lookup ("place_behind" : Str) = none
theorem PaceAt.mono {K : PySem.W.Frag} {C : Addr} {H H' : Hp} {a : Addr} {r e p span : Nat} (h : PaceAt K C H a r e p span) (s : Same H H') : PaceAt K C H' a r e p span := by
  obtain ⟨dx, fs, h1, ⟨q1, h2, h3⟩, ⟨q2, h4, h5⟩, ⟨v, h6, h7⟩, h8⟩ := h.ex
  exact ⟨dx, fs, s _ _ h1, ⟨q1, h2, s.seq h3⟩, ⟨q2, h4, s.seq h5⟩, ⟨v, h6, h7.mono s⟩, h8⟩
def spInitP (K : PySem.W.Frag) (C : Addr) : Sp := fun vs H Q _ => ∃ (a dx : Addr) (v : V) (x : Str) (r e p span : Nat), vs = [.ref a, v, .str x, .int (span : Int)] ∧ H a = some (.ins C dx []) ∧ ruleW[r]? = some x ∧ Dp K H v (partD e p) ∧ GoodPart 16 e p ∧ span ≤ 1000000 ∧
  ∀ H', But a H H' → (∀ (b : Addr) (l : List V), H b = some (.lst l) → PaceAt K C (hid b H') a r e p span) → Q .non H'
theorem but_hidb {a b : Addr} {H H' : Hp} (x : But a H H') : But a (hid b H) (hid b H') := fun c o nc e => by
  by_cases z : c = b
  · subst z
    have : hid c H c = none := by unfold hid; rw [if_pos rfl]
    rw [this] at e; cases e
  · rw [hid_ne z] at e ⊢
    exact x c o nc e
/-- the paces of the works of a lot -/
def PacesAt (K : PySem.W.Frag) (C : Addr) (H : Hp) (xs : List V) (r : Nat) (js : List Job) (span : Nat) : Prop := xs.length = js.length ∧ ∀ (i : Nat) (x : V) (j : Job), xs[i]? = some x → js[i]? = some j → ∃ a, x = .ref a ∧ PaceAt K C H a r j.2.1 j.2.2 span
theorem PacesAt.mono {K : PySem.W.Frag} {C : Addr} {H H' : Hp} {xs : List V} {r span : Nat} {js : List Job} (h : PacesAt K C H xs r js span) (s : Same H H') : PacesAt K C H' xs r js span := ⟨h.1, fun i x j h1 h2 => by
  obtain ⟨a, e, h3⟩ := h.2 i x j h1 h2
  exact ⟨a, e, h3.mono s⟩⟩
def spPacesOf (K : PySem.W.Frag) (C CQ : Addr) : Sp := fun vs H Q _ => ∃ (a : Addr) (n r : Nat) (js : List Job) (x : Str), vs = [.ref a, .str x] ∧ LotAt K C H a n js ∧ Good 16 js ∧ js.length ≤ 6 ∧ spanN js ≤ 1000000 ∧ ruleW[r]? = some x ∧
  ∀ (p : Addr) (xs : List V) (H' : Hp), H p = none → Same H H' → H' p = some (.lst xs) → PacesAt K CQ (hid p H') xs r js (spanN js) → Q (.ref p) H'
/-! ## who is due, in order -/
/-- for each work: its place and for how many ticks its turn has begun -/
def dueK (r span : Nat) : List Job → List (Int × Int) → Nat → List (List Int × Nat)
  | j :: js, (pl, si) :: ss, k => (if 0 ≤ si then [(rankI r j.2.1 j.2.2 span (pl + 1) (begI j.2.1 j.2.2 (pl + 1) + si), k)] else []) ++ dueK r span js ss (k + 1)
  | _, _, _ => []
def dueD (x : List Int × Nat) : PyData := .tuple [rowD x.1, .int (x.2 : Int)]
def atD : PyData → Int
  | .tuple [_, .int i] => i
  | _ => 0
def ordL (l : List (List Int × Nat)) : List Int := ((l.map dueD).mergeSort (PySem.W.dataLe false id)).map atD
/-- the places are there -/
def Stand (js : List Job) (ss : List (Int × Int)) : Prop := ss.length = js.length ∧ ∀ (i : Nat) (j : Job) (s : Int × Int), js[i]? = some j → ss[i]? = some s → 0 ≤ s.1 ∧ s.1 < j.2.1 ∧ (0 ≤ s.2 → s.2 < borI j.2.1 j.2.2 (s.1 + 1) - begI j.2.1 j.2.2 (s.1 + 1))
def standD (s : Int × Int) : PyData := .tuple [.int s.1, .int s.2]
def spOrderOf (K : PySem.W.Frag) (CQ : Addr) : Sp := fun vs H Q _ => ∃ (p q : Addr) (xs ys : List V) (r span : Nat) (js : List Job) (ss : List (Int × Int)), vs = [.ref p, .ref q] ∧ SqL K H p xs ∧ PacesAt K CQ H xs r js span ∧ r < 4 ∧ SqL K H q ys ∧ DpAll K H ys (ss.map standD) ∧ Stand js ss ∧ js.length ≤ 6 ∧
  ∀ (a : Addr) (H' : Hp), H a = none → Same H H' → H' a = some (.tup ((ordL (dueK r span js ss 0)).map V.int)) → Q (.ref a) H'
theorem dueK_snoc {r span : Nat} {j : Job} {s : Int × Int} : ∀ {js : List Job} {ss : List (Int × Int)} {k : Nat}, js.length = ss.length → dueK r span (js ++ [j]) (ss ++ [s]) k = dueK r span js ss k ++ (if 0 ≤ s.2 then [(rankI r j.2.1 j.2.2 span (s.1 + 1) (begI j.2.1 j.2.2 (s.1 + 1) + s.2), k + js.length)] else [])
  | [], [], k, _ => by
    show (if 0 ≤ s.2 then _ else []) ++ [] = [] ++ _
    rw [List.append_nil, List.nil_append]; rfl
  | j1 :: js, s1 :: ss, k, h => by
    have ih := dueK_snoc (r := r) (span := span) (j := j) (s := s) (js := js) (ss := ss) (k := k + 1) (by simpa using h)
    show (if 0 ≤ s1.2 then _ else []) ++ dueK r span (js ++ [j]) (ss ++ [s]) (k + 1) = ((if 0 ≤ s1.2 then _ else []) ++ dueK r span js ss (k + 1)) ++ _
    rw [ih, List.append_assoc, List.length_cons]
    have e : k + 1 + js.length = k + (js.length + 1) := by omega
    rw [e]
  | [], _ :: _, _, h => by simp at h
  | _ :: _, [], _, h => by simp at h
theorem dueK_len {r span : Nat} : ∀ (js : List Job) (ss : List (Int × Int)) (k : Nat), (dueK r span js ss k).length ≤ js.length
  | [], _, _ => by simp [dueK]
  | _ :: _, [], _ => by simp [dueK]
  | j :: js, s :: ss, k => by
    have := dueK_len (r := r) (span := span) js ss (k + 1)
    show ((if 0 ≤ s.2 then _ else []) ++ dueK r span js ss (k + 1)).length ≤ js.length + 1
    rw [List.length_append]
    split
    · rw [List.length_singleton]; omega
    · rw [List.length_nil]; omega
theorem alike_due (a b : List Int × Nat) : PySem.W.alike (dueD a) (dueD b) = true := by
  show (PySem.W.alike (rowD a.1) (rowD b.1) && (PySem.W.alike (.int _) (.int _) && PySem.W.alikeAll [] [])) = true
  rw [show PySem.W.alike (rowD a.1) (rowD b.1) = true from PySem.W.alike_ints _ _]; rfl
theorem depth_due (a : List Int × Nat) : (dueD a).depth ≤ 3 := by
  show max (PyData.depthAll (a.1.map PyData.int) + 1) (max 0 0) + 1 ≤ 3
  rw [PySem.W.depth_ints]; decide
/-! ## a tuple of texts of the top -/
theorem strs_vals : ∀ {us : List Value} {ss : List Str}, us.map strOf = ss.map some → Vals (ss.map V.str) us
  | [], [], _ => .nil
  | u :: us, x :: ss, h => by
    rw [List.map_cons, List.map_cons] at h
    injection h with h1 h2
    refine .cons ?_ (strs_vals h2)
    unfold strOf at h1
    split at h1
    · rename_i y tk
      cases h1
      exact ⟨_, rfl⟩
    · cases h1
  | [], _ :: _, h => by cases h
  | _ :: _, [], h => by cases h
theorem strs_in {K : PySem.W.Frag} {a : Addr} {ss : List Str} (h : strsIn K a = some (ss.map some)) (H : Hp) : SqT K H a (ss.map V.str) := by
  unfold strsIn at h
  split at h
  · rename_i c od its n sl q
    split at h
    · rename_i z
      obtain ⟨rfl, hz⟩ := z
      exact .inr ⟨_, its, n, q, rfl, rfl, by rw [sizeLine_eq]; omega, strs_vals (Option.some.inj h)⟩
    · cases h
  · cases h
/-! ## a rule, or none -/
def RuleV (K : PySem.W.Frag) (H : Hp) (x : V) : Option Nat → Prop
  | some r => ∃ s, x = .str s ∧ ruleW[r]? = some s
  | none => (∃ s, x = .str s ∧ ¬ s ∈ ruleW) ∨ ∃ T, T ∈ ["int", "bool", "NoneType", "list", "tuple", "dict"] ∧ TyX K H x (.type T)
theorem RuleV.mono {K : PySem.W.Frag} {H H' : Hp} {x : V} {o : Option Nat} (h : RuleV K H x o) (s : Same H H') : RuleV K H' x o := by
  cases o with
  | some r => exact h
  | none =>
    rcases h with h | ⟨T, h1, h2⟩
    · exact .inl h
    · exact .inr ⟨T, h1, TyX.mono h2 s⟩
theorem RuleV.ext {K : PySem.W.Frag} {H H' : Hp} {x : V} {o : Option Nat} (h : RuleV K H x o) (s : ExtN H H') : RuleV K H' x o := by
  cases o with
  | some r => exact h
  | none =>
    rcases h with h | ⟨T, h1, h2⟩
    · exact .inl h
    · exact .inr ⟨T, h1, TyX.ext h2 s⟩
def spIsRule (K : PySem.W.Frag) : Sp := fun vs H Q _ => ∃ (x : V) (o : Option Nat), vs = [x] ∧ RuleV K H x o ∧ Q (.bl o.isSome) H
def spCheckRuleX (K : PySem.W.Frag) (CR : Addr) : Sp := fun vs H Q E => ∃ (x : V) (o : Option Nat), vs = [x] ∧ RuleV K H x o ∧ (o.isSome = true → Q .non H) ∧ (o = none → Raise1 CR "given" x H E)
/-! ## the order that a rule puts -/
def standsL : List Job → List Int → Int → List (Int × Int)
  | j :: js, m :: ms, z => (m % (j.2.1 : Int), z - begI j.2.1 j.2.2 (m + 1)) :: standsL js ms z
  | _, _, _ => []
theorem Has.held {P : Program} {w : World} {K : PySem.W.Frag} {mg : Str → Option Value} {base : Heap} {k : Nat} {x : Str} {ps : List Str} {sp : Sp} {f : Addr} (h : Has P w K mg base k x ps sp) (m : mg x = some (.ref f)) : Held P w K mg base k f sp := by
  obtain ⟨f', fd, F, hm, hk, hb⟩ := h.ex
  rw [hm] at m
  cases m
  exact ⟨fd, ps, F, hk, hb⟩
end Ts
namespace Ts
open PySem PySem.Spec PyProof.Rows L2 PySem.W
/-! ## sorted(t), t a tuple of ints -/
section
variable {prog : Program} {w : World} {A : Around} {E : Value → Shared → Prop} {s : Shared}
theorem gather_tup {t : Addr} {us : List Value} {G : List Value → Shared → Prop} (ht : s.heap.IsTuple t us.toArray) (hz : us.length ≤ sizeLine)
    (g : G us { s with heap := (s.heap.push (seqObj "list" #[] 0)).update s.heap.objs.size (Obj.mapSeq (· ++ us.toArray)) }) : wpAny (model prog w) A (collect (.ref t)) G E s := by
  obtain ⟨ob, hob, hcl, k, hda⟩ := id ht
  unfold collect
  refine wpAny_bind <| wpAny_runValue <| codeAny_builtin entry_proto_collect' ?_
  show wpAny _ _ (do again (.builtin "list.__iadd__" ⟨[← newList [], .ref t], []⟩)) _ _ s
  refine wpAny_bind <| wpAny_newList <| wpAny_pure ⟨Code.quiet_builtin _ (by decide +kernel), codeAny_builtin entry_list_iadd' ?_⟩
  show wpAny _ _ (Builtin.List.listExtendWith (.ref s.heap.objs.size) (.ref t) (.ref s.heap.objs.size)) _ _ { s with heap := s.heap.push (seqObj "list" #[] 0) }
  unfold Builtin.List.listExtendWith
  have hob2 : (s.heap.push (seqObj "list" #[] 0)).get? t = some ob := Heap.get?_push_of_some _ hob
  have new0 : (s.heap.push (seqObj "list" #[] 0)).get? s.heap.objs.size = some (seqObj "list" #[] 0) := Heap.get?_push_size _ rfl
  refine wpAny_bind <| wpAny_typeOf (T := "tuple") ⟨ob, hob2, hcl⟩ ?_
  rw [if_pos (by rw [show (Value.type "tuple" == Value.type "tuple") = true from rfl, Bool.or_true])]
  refine wpAny_bind <| listItems_at hob2 hda ?_
  refine wpAny_bind <| listItems_at (xs := #[]) (n := 0) new0 rfl ?_
  rw [if_neg (show ¬ _ by simp)]
  refine wpAny_bind <| listUpdate_at (xs := #[]) (n := 0) new0 rfl ?_ (Nat.zero_le _) (by show (#[] ++ us.toArray).size ≤ sizeLine + 1; simp only [Array.size_append, List.size_toArray, List.length_nil]; omega)
  refine wpAny_pure ?_
  show wpAny (model prog w) A (do
      let ob ← load s.heap.objs.size
      match ob.data with
      | .seq ys _ => pure ys.toList
      | _ => unsupported "internal:collect") G E { s with heap := (s.heap.push (seqObj "list" #[] 0)).update s.heap.objs.size (Obj.mapSeq (· ++ us.toArray)) }
  refine wpAny_bind <| wpAny_load (get?_update_seq new0 _) ?_
  show wpAny _ _ (pure ((#[] : Array Value) ++ us.toArray).toList) G E _
  have e : ((#[] : Array Value) ++ us.toArray).toList = us := by simp
  rw [e]
  exact wpAny_pure g
theorem sorted_tupW {t : Addr} {us : List Value} {lt9 : Value → Value → Bool} {G : Value → Shared → Prop} (O : SrtO.Swo lt9) (ht : s.heap.IsTuple t us.toArray) (hz : us.length ≤ sizeLine)
    (hS : 2 ≤ us.length → ∀ (h9 : Heap) (c : Addr), h9.get? c = some (seqObj "list" us.toArray 0) → (∀ b o, s.heap.get? b = some o → b ≠ c ∧ h9.get? b = some o) → SrtO.SortableO prog w A.in1.in1 { s with heap := h9 } c us lt9)
    (g : ∀ out : List Value, SrtO.Srtd lt9 out → SrtO.Stb lt9 out us → G (.ref (s.heap.objs.size + 1)) { s with heap := sortedAll s.heap us out.toArray }) : wpAny (model prog w) A (call (.builtin "sorted") [.ref t]) G E s := by
  refine Calls.call_function_entry kind_sorted plain_sorted entry_sorted (args_sorted1 _) ?_
  unfold Builtin.«sorted»
  refine wpAny_bind <| show wpAny _ _ (checkCount "sorted" 1 1 _) _ _ s from wpAny_pure ?_
  refine wpAny_bind <| gather_tup ht hz ?_
  refine wpAny_bind <| wpAny_newList ?_ hz
  have sz : ((s.heap.push (seqObj "list" #[] 0)).update s.heap.objs.size (Obj.mapSeq (· ++ us.toArray))).objs.size = s.heap.objs.size + 1 := (Heap.size_update ..).trans (size_push' ..)
  have at1 : (((s.heap.push (seqObj "list" #[] 0)).update s.heap.objs.size (Obj.mapSeq (· ++ us.toArray))).push (seqObj "list" us.toArray 0)).get? (s.heap.objs.size + 1) = some (seqObj "list" us.toArray 0) := by
    have z := Heap.get?_push_size ((s.heap.push (seqObj "list" #[] 0)).update s.heap.objs.size (Obj.mapSeq (· ++ us.toArray))) (o := seqObj "list" us.toArray 0) rfl
    rwa [sz] at z
  have stay : ∀ b o, s.heap.get? b = some o → b ≠ s.heap.objs.size + 1 ∧ (((s.heap.push (seqObj "list" #[] 0)).update s.heap.objs.size (Obj.mapSeq (· ++ us.toArray))).push (seqObj "list" us.toArray 0)).get? b = some o := fun b o e => by
    have lt : b < s.heap.objs.size := Heap.lt_size e
    refine ⟨Nat.ne_of_lt (Nat.lt_succ_of_lt lt), Heap.get?_push_of_some _ ?_⟩
    exact (Heap.get?_update_ne _ _ _ _ (Nat.ne_of_lt lt)).trans (Heap.get?_push_of_some _ e)
  show wpAny _ _ _ _ _ { s with heap := ((s.heap.push (seqObj "list" #[] 0)).update s.heap.objs.size (Obj.mapSeq (· ++ us.toArray))).push (seqObj "list" us.toArray 0) }
  rw [sz]
  refine wpAny_bind <| wpAny_holding <| wpAny_call_entry slot_list_sort ⟨_, at1, rfl⟩ entry_list_sort (SrtO.list_sort_ord O at1 hz (fun two => hS two _ _ at1 stay) fun out o1 o2 => ⟨_, rfl, ?_⟩) (args_list_sort _)
  exact wpAny_pure ⟨_, rfl, g out o1 o2⟩
end
def rSortTI (K : PySem.W.Frag) : List V → Hp → VK → Prop := fun vs H Q => ∃ (a : Addr) (ns : List Int), vs = [V.ref a] ∧ SqT K H a (ns.map V.int) ∧ ∀ (ms : List Int) (p : Addr), ms.Perm ns → ms.Pairwise (· ≤ ·) → H p = none → Q (.ref p) (upd H p (.lst (ms.map V.int)))
theorem cr_sortTI {X : Cx} : CallR X (.builtin "sorted") (rSortTI X.K) := by
  intro pins s σ H vs us Q I r h
  obtain ⟨a, ns, rfl, ht, q⟩ := h
  obtain ⟨its, rv, hl, hz⟩ := I.tuple ht
  rw [Vals.ref1 r]
  have hi := rv.ints
  have hz2 : its.length ≤ sizeLine := by rw [← rv.length]; exact hz
  refine sorted_tupW SrtO.swo_int (show s.heap.IsTuple a its.toArray from hl) hz2 (fun two h9 c _ _ => SrtO.ints_sortable hi two) fun out o1 o2 => ?_
  obtain ⟨k1, k2, k3⟩ := SrtO.ints_out hi o1 o2
  obtain ⟨ep, at2⟩ := sortedAll_at s.heap its out.toArray
  have fits : ((out.map SrtO.iv).map V.int).length ≤ sizeLine := by
    rw [List.length_map, k2.length_eq]
    rwa [List.length_map] at hz
  exact ⟨.ref _, upd H (s.heap.objs.size + 1) (.lst ((out.map SrtO.iv).map V.int)), I.laid (t' := s.toks) (fun _ _ => sortedAll_old) (Nat.le_succ _) ⟨fits, out, ep, vals_of_ints k1, at2⟩, rfl, q _ _ k2 k3 (I.hok.fresh (Nat.le_succ _))⟩
end Ts
namespace Ts
open PySem PySem.Spec PyProof.Rows L2
/-! ## a rule followed tick by tick -/
abbrev j0 : Job := ("", 1, 1)
abbrev jAt (js : List Job) (k : Nat) : Job := js.getD k j0
abbrev sAt (ss : List (Int × Int)) (k : Nat) : Int × Int := ss.getD k (0, 0)
def lenA (j : Job) (pl : Int) : Int := borI j.2.1 j.2.2 (pl + 1) - begI j.2.1 j.2.2 (pl + 1)
def gapA (j : Job) (pl : Int) : Int := begI j.2.1 j.2.2 (pl + 1 + 1) - begI j.2.1 j.2.2 (pl + 1)
def stepT (crew : List Int) (ts : List Int) (k : Nat) : Int := if (k : Int) ∈ crew then ts.getD k 0 + 1 else ts.getD k 0
def stepS (late : Nat → Int → Int) (crew : List Int) (js : List Job) (ts : List Int) (ss : List (Int × Int)) (k : Nat) : Int × Int :=
  if (k : Int) ∈ crew then (((sAt ss k).1 + 1) % ((jAt js k).2.1 : Int), (sAt ss k).2 + 1 - gapA (jAt js k) (sAt ss k).1 - late k (ts.getD k 0 + 1)) else ((sAt ss k).1, (sAt ss k).2 + 1)
def stepTs (crew : List Int) (js : List Job) (ts : List Int) : List Int := (List.range js.length).map (stepT crew ts)
def stepSs (late : Nat → Int → Int) (crew : List Int) (js : List Job) (ts : List Int) (ss : List (Int × Int)) : List (Int × Int) := (List.range js.length).map (stepS late crew js ts ss)
def missB (js : List Job) (ss : List (Int × Int)) (k : Nat) : Bool := decide ((sAt ss k).2 = lenA (jAt js k) (sAt ss k).1)
def missL (js : List Job) (ss : List (Int × Int)) : Option Nat := (List.range js.length).find? (missB js ss)
def sortI (ns : List Int) : List Int := ns.mergeSort fun a b => decide (a ≤ b)
def crewA (r n span : Nat) (js : List Job) (ss : List (Int × Int)) : List Int := (ordL (dueK r span js ss 0)).take n
def playN (late : Nat → Int → Int) (r n span : Nat) (js : List Job) : Nat → Int → List Int → List (Int × Int) → List (List Int) × Option (Int × Nat × Int)
  | 0, _, _, _ => ([], none)
  | f + 1, m, ts, ss => match missL js (stepSs late (crewA r n span js ss) js ts ss) with
    | some k => ([sortI (crewA r n span js ss)], some (m + 1, k, (stepTs (crewA r n span js ss) js ts).getD k 0))
    | none => (sortI (crewA r n span js ss) :: (playN late r n span js f (m + 1) (stepTs (crewA r n span js ss) js ts) (stepSs late (crewA r n span js ss) js ts ss)).1, (playN late r n span js f (m + 1) (stepTs (crewA r n span js ss) js ts) (stepSs late (crewA r n span js ss) js ts ss)).2)
theorem playN_succ {late : Nat → Int → Int} {r n span : Nat} {js : List Job} {f : Nat} {m : Int} {ts : List Int} {ss : List (Int × Int)} : playN late r n span js (f + 1) m ts ss = (match missL js (stepSs late (crewA r n span js ss) js ts ss) with
    | some k => ([sortI (crewA r n span js ss)], some (m + 1, k, (stepTs (crewA r n span js ss) js ts).getD k 0))
    | none => (sortI (crewA r n span js ss) :: (playN late r n span js f (m + 1) (stepTs (crewA r n span js ss) js ts) (stepSs late (crewA r n span js ss) js ts ss)).1, (playN late r n span js f (m + 1) (stepTs (crewA r n span js ss) js ts) (stepSs late (crewA r n span js ss) js ts ss)).2)) := rfl
theorem sortI_eq {ms ns : List Int} (h : ms.Perm ns) (p : ms.Pairwise (· ≤ ·)) : ms = sortI ns := by
  have h1 : (sortI ns).Perm ns := List.mergeSort_perm _ _
  have h2 : (sortI ns).Pairwise (· ≤ ·) := by
    have := List.pairwise_mergeSort (le := fun a b : Int => decide (a ≤ b)) (fun a b c => by simp; omega) (fun a b => by simp; omega) ns
    exact this.imp fun h => of_decide_eq_true h
  exact List.Perm.eq_of_pairwise (fun a b _ _ h1 h2 => Int.le_antisymm h1 h2) p h2 (h.trans h1.symm)
/-! ## where works stand, step by step -/
theorem ord_mem {r span : Nat} {m : Int} : ∀ {js : List Job} {ss : List (Int × Int)} {k : Nat} {x : List Int × Nat}, x ∈ dueK r span js ss k → ∃ i s, x.2 = k + i ∧ ss[i]? = some s ∧ 0 ≤ s.2
  | j :: js, s :: ss, k, x, h => by
    have h : x ∈ (if 0 ≤ s.2 then [(rankI r j.2.1 j.2.2 span (s.1 + 1) (begI j.2.1 j.2.2 (s.1 + 1) + s.2), k)] else []) ++ dueK r span js ss (k + 1) := h
    rcases List.mem_append.mp h with h | h
    · split at h
      · rename_i c
        rw [List.mem_singleton.mp h]
        exact ⟨0, s, rfl, rfl, c⟩
      · cases h
    · obtain ⟨i, s', h1, h2, h3⟩ := ord_mem (m := m) h
      exact ⟨i + 1, s', by omega, h2, h3⟩
  | [], _, _, _, h => by simp [dueK] at h
  | _ :: _, [], _, _, h => by simp [dueK] at h
theorem crew_due {r n span : Nat} {js : List Job} {ss : List (Int × Int)} {k : Nat} (h : (k : Int) ∈ crewA r n span js ss) : ∃ s, ss[k]? = some s ∧ 0 ≤ s.2 := by
  have h1 := List.mem_of_mem_take h
  obtain ⟨d, hd, e⟩ := List.mem_map.mp h1
  obtain ⟨x, hx, rfl⟩ := List.mem_map.mp ((List.mergeSort_perm _ _).mem_iff.mp hd)
  obtain ⟨i, s, h2, h3, h4⟩ := ord_mem (m := 0) hx
  have : (x.2 : Int) = (k : Int) := e
  have e2 : i = k := by omega
  subst e2
  exact ⟨s, h3, h4⟩
theorem bor_up1 {j : Job} {t : Int} (g : GoodPart 16 j.2.1 j.2.2) : borI j.2.1 j.2.2 t + 1 ≤ borI j.2.1 j.2.2 (t + 1) := by
  obtain ⟨g1, g2, _⟩ := g
  unfold borI
  refine (Int.le_ediv_iff_mul_le (by omega)).mpr ?_
  have h1 := Int.ediv_mul_le (t * (j.2.2 : Int) + j.2.1 - 1) (show (j.2.1 : Int) ≠ 0 by omega)
  rw [Int.add_mul, Int.one_mul, Int.add_mul, Int.one_mul]
  omega
theorem len_up0 {j : Job} {t : Int} (g : GoodPart 16 j.2.1 j.2.2) : 0 < borI j.2.1 j.2.2 t - begI j.2.1 j.2.2 t := by
  obtain ⟨g1, g2, _⟩ := g
  unfold borI begI
  have h1 := Int.ediv_mul_le ((t - 1) * (j.2.2 : Int)) (show (j.2.1 : Int) ≠ 0 by omega)
  have h2 : (t - 1) * (j.2.2 : Int) / j.2.1 + 1 ≤ (t * (j.2.2 : Int) + j.2.1 - 1) / j.2.1 := by
    refine (Int.le_ediv_iff_mul_le (by omega)).mpr ?_
    have h3 : t * (j.2.2 : Int) = (t - 1) * (j.2.2 : Int) + j.2.2 := by rw [Int.sub_mul, Int.one_mul]; omega
    rw [Int.add_mul, Int.one_mul, h3]
    omega
  omega
theorem getD_of {α : Type} {l : List α} {k : Nat} {x d : α} (h : l[k]? = some x) : l.getD k d = x := by
  rw [List.getD_eq_getElem?_getD, h]; rfl
theorem stand_step {late : Nat → Int → Int} {r n span : Nat} {js : List Job} {ts : List Int} {ss : List (Int × Int)} (G : Good 16 js) (hl : ∀ k t, 0 ≤ late k t) (St : Stand js ss) (hm : missL js (stepSs late (crewA r n span js ss) js ts ss) = none) : Stand js (stepSs late (crewA r n span js ss) js ts ss) := by
  refine ⟨by unfold stepSs; rw [List.length_map, List.length_range], fun i j s hj hs => ?_⟩
  have il : i < js.length := (List.getElem?_eq_some_iff.mp hj).1
  have hs' := hs
  unfold stepSs at hs'
  rw [List.getElem?_map, List.getElem?_range il] at hs'
  have es : stepS late (crewA r n span js ss) js ts ss i = s := Option.some.inj hs'
  have no : missB js (stepSs late (crewA r n span js ss) js ts ss) i = false := by
    have := List.find?_eq_none.mp hm i (List.mem_range.mpr il)
    simpa using this
  have ej : jAt js i = j := getD_of hj
  have ea : sAt (stepSs late (crewA r n span js ss) js ts ss) i = s := getD_of hs
  have no2 : s.2 ≠ lenA j s.1 := by
    unfold missB at no
    rw [ea, ej] at no
    exact of_decide_eq_false no
  have g := G.part j (List.mem_of_getElem? hj)
  obtain ⟨g1, g2, g3, g4⟩ := id g
  have io : i < ss.length := by rw [St.1]; exact il
  obtain ⟨o, ho⟩ : ∃ o, ss[i]? = some o := ⟨ss[i], List.getElem?_eq_getElem io⟩
  have eo : sAt ss i = o := getD_of ho
  obtain ⟨s1, s2, s3⟩ := St.2 i j o hj ho
  unfold stepS at es
  rw [ej, eo] at es
  by_cases c : (i : Int) ∈ crewA r n span js ss
  · rw [if_pos c] at es
    subst es
    obtain ⟨o', ho', c2⟩ := crew_due c
    rw [ho] at ho'
    cases Option.some.inj ho'
    have h3 := s3 c2
    have e0 : (j.2.1 : Int) ≠ 0 := by omega
    refine ⟨Int.emod_nonneg _ e0, Int.emod_lt_of_pos _ (by omega), fun _ => ?_⟩
    have dv : o.1 + 1 + 1 = ((o.1 + 1) % (j.2.1 : Int) + 1) + (j.2.1 : Int) * ((o.1 + 1) / (j.2.1 : Int)) := by
      have := Int.emod_add_mul_ediv (o.1 + 1) (j.2.1 : Int)
      omega
    have b1 : begI j.2.1 j.2.2 (o.1 + 1 + 1) = begI j.2.1 j.2.2 ((o.1 + 1) % (j.2.1 : Int) + 1) + (j.2.2 : Int) * ((o.1 + 1) / (j.2.1 : Int)) := by rw [dv]; exact beg_shift (by omega)
    have b2 : borI j.2.1 j.2.2 (o.1 + 1 + 1) = borI j.2.1 j.2.2 ((o.1 + 1) % (j.2.1 : Int) + 1) + (j.2.2 : Int) * ((o.1 + 1) / (j.2.1 : Int)) := by rw [dv]; exact bor_shift (by omega)
    have b3 := bor_up1 (j := j) (t := o.1 + 1) g
    have l0 := hl i (ts.getD i 0 + 1)
    show o.2 + 1 - gapA j o.1 - late i (ts.getD i 0 + 1) < borI j.2.1 j.2.2 ((o.1 + 1) % (j.2.1 : Int) + 1) - begI j.2.1 j.2.2 ((o.1 + 1) % (j.2.1 : Int) + 1)
    unfold gapA
    omega
  · rw [if_neg c] at es
    subst es
    refine ⟨s1, s2, fun h0 => ?_⟩
    have h0 : 0 ≤ o.2 + 1 := h0
    have no3 : o.2 + 1 ≠ lenA j o.1 := no2
    unfold lenA at no3
    show o.2 + 1 < borI j.2.1 j.2.2 (o.1 + 1) - begI j.2.1 j.2.2 (o.1 + 1)
    by_cases c3 : 0 ≤ o.2
    · have := s3 c3; omega
    · have := len_up0 (j := j) (t := o.1 + 1) g
      omega
/-! ## what is asked -/
def LostV (H : Hp) (js : List Job) (v : V) : Option (Int × Nat × Int) → Prop
  | none => v = .non
  | some (m, k, t) => ∃ (q : Addr), k < js.length ∧ v = .ref q ∧ H q = some (.tup [.int m, .str (jAt js k).1, .int t])
def spPlace (K : PySem.W.Frag) (C : Addr) : Sp := fun vs H Q _ => ∃ (a : Addr) (r e p span : Nat) (pl : Int), vs = [.ref a, .int pl] ∧ PaceAt K C H a r e p span ∧ 0 < e ∧ e ≤ 1000 ∧ Q (.int ((pl + 1) % (e : Int))) H
/-- the dicts of by how much turns are late -/
def LateD (H : Hp) (ds : List V) (js : List Job) (late : Nat → Int → Int) : Prop := ds.length = js.length ∧ ∀ (k : Nat) (v : V), ds[k]? = some v → ∃ (d : Addr) (kvs : List (L2.Key × V)), v = .ref d ∧ H d = some (.dK kvs) ∧ ∀ t : Int, ((L2.valV kvs (.inl t)).getD (.int 0)) = .int (late k t)
def spPlay (K : PySem.W.Frag) (C : Addr) : Sp := fun vs H Q _ => ∃ (a pd : Addr) (n r f : Nat) (js : List Job) (x : Str) (ds : List V) (late : Nat → Int → Int), vs = [.ref a, .str x, .ref pd, .int (f : Int)] ∧ LotAt K C H a n js ∧ Good 16 js ∧ 0 < js.length ∧ js.length ≤ 6 ∧ spanN js ≤ 1000000 ∧ ruleW[r]? = some x ∧ SqL K H pd ds ∧ LateD H ds js late ∧ (∀ k t, 0 ≤ late k t) ∧ f ≤ 10000 ∧
  ∀ (p pr : Addr) (us : List V) (lv : V) (H' : Hp), Same H H' → H' p = some (.tup [.ref pr, lv]) → H' pr = some (.tup us) → RowT H' us (playN late r n (spanN js) js f 0 (List.replicate js.length 1) ((List.range js.length).map fun k => (0, - late k 1))).1 → LostV H' js lv (playN late r n (spanN js) js f 0 (List.replicate js.length 1) ((List.range js.length).map fun k => (0, - late k 1))).2 → Q (.ref p) H'
/-! ## lists of tuples while other lists change -/
def Tups (H H' : Hp) : Prop := ∀ a xs, H a = some (.tup xs) → H' a = some (.tup xs)
theorem Tups.of {H H' : Hp} (s : Same H H') : Tups H H' := fun a xs e => s _ _ e
theorem Tups.trans {H H1 H2 : Hp} (a : Tups H H1) (b : Tups H1 H2) : Tups H H2 := fun c xs e => b _ _ (a _ _ e)
theorem Tups.put {H : Hp} {a : Addr} {l : List V} {o : HO} (h : H a = some (.lst l)) : Tups H (upd H a o) := fun c xs e => by
  rw [upd_ne (fun z => by rw [z, h] at e; cases e)]; exact e
theorem RowT.tups {H H' : Hp} {ys : List V} {rows : List (List Int)} (h : RowT H ys rows) (s : Tups H H') : RowT H' ys rows := by
  induction h with
  | nil => exact .nil
  | cons h t ih => exact .cons (s _ _ h) ih
def StV (H : Hp) (sv : List V) (ss : List (Int × Int)) : Prop := sv.length = ss.length ∧ ∀ (i : Nat) (s : Int × Int), ss[i]? = some s → ∃ q, sv[i]? = some (.ref q) ∧ H q = some (.tup [.int s.1, .int s.2])
theorem StV.tups {H H' : Hp} {sv : List V} {ss : List (Int × Int)} (h : StV H sv ss) (s : Tups H H') : StV H' sv ss := ⟨h.1, fun i x e => by
  obtain ⟨q, e1, e2⟩ := h.2 i x e
  exact ⟨q, e1, s _ _ e2⟩⟩
theorem dpa_of_get {K : PySem.W.Frag} {H : Hp} : ∀ {xs : List V} {ds : List PyData}, xs.length = ds.length → (∀ (i : Nat) (x : V) (d : PyData), xs[i]? = some x → ds[i]? = some d → Dp K H x d) → DpAll K H xs ds
  | [], [], _, _ => .nil
  | x :: xs, d :: ds, h, g => .cons (g 0 x d rfl rfl) (dpa_of_get (by simpa using h) fun i x d e f => g (i + 1) x d e f)
  | [], _ :: _, h, _ => by simp at h
  | _ :: _, [], h, _ => by simp at h
theorem StV.dp {K : PySem.W.Frag} {H : Hp} {sv : List V} {ss : List (Int × Int)} (h : StV H sv ss) : DpAll K H sv (ss.map standD) := dpa_of_get (by rw [List.length_map]; exact h.1) fun i x d e f => by
  rw [List.getElem?_map] at f
  cases es : ss[i]? with
  | none => rw [es] at f; cases f
  | some s =>
    rw [es] at f
    cases Option.some.inj f
    obtain ⟨q, e1, e2⟩ := h.2 i s es
    rw [e] at e1
    cases Option.some.inj e1
    exact .tup (SqT.of e2) (.cons (.int _) (.cons (.int _) .nil))
theorem in_ints {k : Int} {ns : List Int} : inV (V.int k) (ns.map V.int) = decide (k ∈ ns) := by
  by_cases e : k ∈ ns
  · rw [decide_eq_true e]
    exact List.any_eq_true.mpr ⟨.int k, List.mem_map.mpr ⟨k, e, rfl⟩, decide_eq_true rfl⟩
  · rw [decide_eq_false e]
    refine Bool.eq_false_iff.mpr fun z => ?_
    obtain ⟨y, hy, z2⟩ := List.any_eq_true.mp z
    obtain ⟨k', hk', rfl⟩ := List.mem_map.mp hy
    exact e (of_decide_eq_true (p := k' = k) z2 ▸ hk')
theorem step_place {late : Nat → Int → Int} {crew : List Int} {js : List Job} {ts : List Int} {ss : List (Int × Int)} {k : Nat} (G : Good 16 js) (St : Stand js ss) (kl : k < js.length) : 0 ≤ (sAt (stepSs late crew js ts ss) k).1 ∧ (sAt (stepSs late crew js ts ss) k).1 < ((jAt js k).2.1 : Int) := by
  have e : sAt (stepSs late crew js ts ss) k = stepS late crew js ts ss k := getD_of (by unfold stepSs; rw [List.getElem?_map, List.getElem?_range kl]; rfl)
  have ej : js[k]? = some (jAt js k) := by
    have e := List.getElem?_eq_getElem kl
    rw [e]; exact congrArg some (getD_of e).symm
  have kl2 : k < ss.length := by rw [St.1]; exact kl
  have es : ss[k]? = some (sAt ss k) := by
    have e := List.getElem?_eq_getElem kl2
    rw [e]; exact congrArg some (getD_of e).symm
  obtain ⟨s1, s2, _⟩ := St.2 k _ _ ej es
  have g := (G.part _ (List.mem_of_getElem? ej)).1
  rw [e]
  unfold stepS
  split
  · exact ⟨Int.emod_nonneg _ (by omega), Int.emod_lt_of_pos _ (by omega)⟩
  · exact ⟨s1, s2⟩
/-! ## a rule in a round -/
end Ts
namespace Ts
open PySem PySem.Spec PyProof.Rows L2 L2H LamX
section
variable {X : Cx} {k : Nat} {x : Str} {sp : Sp} {p pos : Pos}
/-- a call without arguments -/
theorem pe_h0 (h : Has X.prog X.w X.K X.mg X.base k x [] sp) (hr : Room k X.A) (hg : Gl X x := by rfl) (hdb : (x == ("__debug__" : Str)) = false := by decide) :
    PE X (.Call (.Name x p) [] [] pos) (tCall sp [] E0 tNil) := by
  obtain ⟨f, fd, F, hm, hk, hb⟩ := h.ex
  exact pe_call0 F hr hg hm hk hb .nil pass0 hdb
end
/-! ## rules asked wrongly -/
def spRulesJ (K : PySem.W.Frag) : Sp := fun vs H Q _ => vs = [] ∧ ∀ (p : Addr) (H' : Hp), H p = none → Same H H' → H' p = some (.lst (ruleW.map V.str)) → Q (.ref p) H'
def W3 (H' : Hp) (v x t u : V) (o : Option (Nat × List Job)) (ro : Option Nat) (k : Option Int) (d : Option PyData) (w : Str × V) : Prop := match o with
  | none => w = (("NotALot" : Str), v)
  | some (_, js) => match ro with
    | none => w = (("InvalidRule" : Str), x)
    | some r => (inRg k 0 (10 ^ 30) = false → w = (("InvalidNumber" : Str), t)) ∧
        ∀ z, k = some z → inRg k 0 (10 ^ 30) = true → (stB js z d = false → w = (("InvalidStanding" : Str), u)) ∧ (stB js z d = true → ∀ had, d = some (rowD had) → ∃ p, w = (("let" : Str), V.ref p) ∧ H' p = some (.tup ((ordL (dueK r (spanN js) js (standsL js had z) 0)).map V.int)))
theorem W3.ext {H H' : Hp} {v x t u : V} {o : Option (Nat × List Job)} {ro : Option Nat} {k : Option Int} {d : Option PyData} {w : Str × V} (h : W3 H v x t u o ro k d w) (s : Tups H H') : W3 H' v x t u o ro k d w := by
  unfold W3 at h ⊢
  split
  · exact h
  · dsimp only at h
    split
    · exact h
    · dsimp only at h
      refine ⟨h.1, fun z e1 e2 => ⟨(h.2 z e1 e2).1, fun e3 had e4 => ?_⟩⟩
      obtain ⟨p, e5, e6⟩ := (h.2 z e1 e2).2 e3 had e4
      exact ⟨p, e5, s _ _ e6⟩
end Ts
namespace Ts
open PySem PySem.Spec PyProof.Rows L2
/-! ## the law's orders -/
theorem dpa_three {K : PySem.W.Frag} {H : Hp} {vs : List V} {a b c : PyData} (h : DpAll K H vs [a, b, c]) : ∃ x y z, vs = [x, y, z] ∧ Dp K H x a ∧ Dp K H y b ∧ Dp K H z c := by
  cases h with
  | cons h1 h => cases h with
    | cons h2 h => cases h with
      | cons h3 h => cases h; exact ⟨_, _, _, rfl, h1, h2, h3⟩
def lateRow (r : Str × Int × Int) : PyData := .tuple [.str r.1, .int r.2.1, .int r.2.2]
def latesD (rows : List (Str × Int × Int)) : PyData := .tuple (rows.map lateRow)
end Ts
namespace Ts
open PySem PySem.Spec PyProof.Rows L2
/-! ## a rule that misses nothing makes a right table -/
/-! ## what the law compares -/
theorem LostV.mono {H H' : Hp} {js : List Job} {v : V} {o : Option (Int × Nat × Int)} (h : LostV H js v o) (s : Same H H') : LostV H' js v o := by
  match o, h with
  | none, h => exact h
  | some (m, k, t), ⟨q, a, b, e⟩ => exact ⟨q, a, b, s _ _ e⟩
end Ts
namespace Ts
open PySem PySem.Spec PyProof.Rows L2 L2H LamX
/-! ## a <= b of alike data -/
def rLeA (K : PySem.W.Frag) : R2 := fun x y H Q => ∃ dx dy, Dp K H x dx ∧ Dp K H y dy ∧ PySem.W.alike dx dy = true ∧ dx ≠ .none ∧ dx.depth ≤ 60 ∧ Q (.bl (!PySem.W.dataLt dy dx)) H
theorem op_leA {X : Cx} (hu : X.A.units + 64 < cLine) : OpR X (compareOp .LtE) (rLeA X.K) := by
  intro pins s σ H x y v u Q I rx ry h
  obtain ⟨dx, dy, hx, hy, ha, hn, hd, q⟩ := h
  obtain ⟨as, r1⟩ := Dp.reads I dx x v hx rx
  obtain ⟨bs, r2⟩ := Dp.reads I dy y u hy ry
  exact PySem.W.le_data r1 r2 ha hn (by omega) ⟨.bl _, H, I, rfl, q⟩
/-! ## lates -/
abbrev LateR := Str × Int × Int
def lateP (s : Str) (t : Int) : PyData := .tuple [.str s, .int t]
def isLateB (js : List Job) : PyData → Bool
  | .tuple [a, x, y] => inN js (some a) && (inRg (kindD x) 1 1000000 && inRg (kindD y) 1 1000000)
  | _ => false
def pairL : PyData → PyData
  | .tuple (a :: b :: _) => .tuple [a, b]
  | d => d
def badLt (js : List Job) : List PyData → Nat → PyData → Option Nat
  | [], _, _ => none
  | d :: ds, i, b => if 200 ≤ i ∨ isLateB js d = false ∨ PySem.W.dataLt b (pairL d) = false then some i else badLt js ds (i + 1) (pairL d)
def latesWrong (js : List Job) : Option PyData → Option V
  | some (.tuple ds) => (badLt js ds 0 (lateP "" 0)).map fun i : Nat => V.int (i : Int)
  | _ => some .non
/-- a late's three things -/
def LateIn (js : List Job) (r : LateR) : Prop := r.1 ∈ js.map (·.1) ∧ 1 ≤ r.2.1 ∧ r.2.1 ≤ 1000000 ∧ 1 ≤ r.2.2 ∧ r.2.2 ≤ 1000000
theorem inNs_is {js : List Job} {d : PyData} (h : inN js (some d) = true) : ∃ s, d = .str s ∧ s ∈ js.map (·.1) := by
  unfold inN at h
  split at h
  · rename_i s e
    cases e
    exact ⟨s, rfl, of_decide_eq_true h⟩
  · cases h
theorem inNs_yes {js : List Job} {s : Str} (h : s ∈ js.map (·.1)) : inN js (some (.str s)) = true := decide_eq_true h
theorem kind_int {d : PyData} {i : Int} (h : kindD d = some i) : d = .int i := by
  unfold kindD at h
  split at h
  · cases h; rfl
  · cases h
theorem isLate_is {js : List Job} {d : PyData} (h : isLateB js d = true) : ∃ r : LateR, d = lateRow r ∧ LateIn js r := by
  unfold isLateB at h
  split at h
  · rename_i a x y
    rw [Bool.and_eq_true, Bool.and_eq_true] at h
    obtain ⟨h1, h2, h3⟩ := h
    obtain ⟨s, rfl, hs⟩ := inNs_is h1
    obtain ⟨t, e2, t1, t2⟩ := inRg_is h2
    obtain ⟨b, e3, b1, b2⟩ := inRg_is h3
    rw [kind_int e2, kind_int e3]
    exact ⟨(s, t, b), rfl, hs, t1, t2, b1, b2⟩
  · cases h
theorem isLate_yes {js : List Job} {r : LateR} (h : LateIn js r) : isLateB js (lateRow r) = true := by
  obtain ⟨h1, h2, h3, h4, h5⟩ := h
  show (inN js (some (.str r.1)) && (decide (1 ≤ r.2.1 ∧ r.2.1 ≤ 1000000) && decide (1 ≤ r.2.2 ∧ r.2.2 ≤ 1000000))) = true
  rw [inNs_yes h1, decide_eq_true ⟨h2, h3⟩, decide_eq_true ⟨h4, h5⟩]; rfl
/-- pairs in order -/
def PLt (a b : LateR) : Prop := a.1.cps.toList < b.1.cps.toList ∨ (a.1 = b.1 ∧ a.2.1 < b.2.1)
instance {a b : LateR} : Decidable (PLt a b) := by unfold PLt; infer_instance
theorem str_of_cps {a b : Str} (h : a.cps.toList = b.cps.toList) : a = b := by
  cases a; cases b
  simp only at h
  congr 1
  exact Array.toList_inj.mp h
theorem plt_trans {a b c : LateR} (h : PLt a b) (g : PLt b c) : PLt a c := by
  rcases h with h | ⟨e, h⟩
  · rcases g with g | ⟨e2, g⟩
    · exact .inl (List.lt_trans h g)
    · exact .inl (e2 ▸ h)
  · rcases g with g | ⟨e2, g⟩
    · exact .inl (e ▸ g)
    · exact .inr ⟨e.trans e2, by omega⟩
theorem eqvS_is {a b : Str} : PyData.eqv (.str a) (.str b) = decide (a = b) := by
  simp only [PyData.eqv]
  exact Bool.eq_iff_iff.mpr ⟨fun h => decide_eq_true (by simpa using h), fun h => by simpa using of_decide_eq_true h⟩
theorem plt_data {s s2 : Str} {t t2 : Int} : PySem.W.dataLt (lateP s t) (lateP s2 t2) = decide (s.cps.toList < s2.cps.toList ∨ (s = s2 ∧ t < t2)) := by
  unfold lateP
  rw [PySem.W.dataLt_pair (by simp [PySem.W.alike]) (by simp [PySem.W.alike]), eqvS_is, PySem.W.dataLt_str, PySem.W.dataLt_int]
  simp only [PyData.eqv, beq_iff_eq]
  by_cases h1 : s = s2
  · subst h1
    have ir : ¬ s.cps.toList < s.cps.toList := List.lt_irrefl _
    by_cases h2 : t = t2 <;> simp [h2, ir]
  · simp [h1]
theorem plt_yes {a b : LateR} (h : PLt a b) : PySem.W.dataLt (lateP a.1 a.2.1) (lateP b.1 b.2.1) = true := plt_data.trans (decide_eq_true h)
theorem alike_pair {s s2 : Str} {t t2 : Int} : PySem.W.alike (lateP s t) (lateP s2 t2) = true := by simp [lateP, PySem.W.alike, PySem.W.alikeAll]
theorem badLt_rows {js : List Job} : ∀ {ds : List PyData} {i : Nat} {b : LateR}, i ≤ 200 → badLt js ds i (lateP b.1 b.2.1) = none → ∃ rows : List LateR, ds = rows.map lateRow ∧ i + rows.length ≤ 200 ∧ (∀ r ∈ rows, LateIn js r ∧ PLt b r) ∧ rows.Pairwise PLt
  | [], _, _, hi, _ => ⟨[], rfl, hi, fun _ z => (by cases z), .nil⟩
  | d :: ds, i, b, hi, h => by
    have h : (if 200 ≤ i ∨ isLateB js d = false ∨ PySem.W.dataLt (lateP b.1 b.2.1) (pairL d) = false then some i else badLt js ds (i + 1) (pairL d)) = none := h
    split at h
    · cases h
    · rename_i c
      have c1 : ¬ 200 ≤ i := fun z => c (.inl z)
      have c2 : isLateB js d = true := by cases z : isLateB js d with | true => rfl | false => exact absurd (.inr (.inl z)) c
      have c3 : PySem.W.dataLt (lateP b.1 b.2.1) (pairL d) = true := by cases z : PySem.W.dataLt (lateP b.1 b.2.1) (pairL d) with | true => rfl | false => exact absurd (.inr (.inr z)) c
      obtain ⟨r, rfl, hr⟩ := isLate_is c2
      obtain ⟨rows, e, hl, ha, hp⟩ := badLt_rows (b := r) (by omega) h
      have br : PLt b r := of_decide_eq_true (p := b.1.cps.toList < r.1.cps.toList ∨ (b.1 = r.1 ∧ b.2.1 < r.2.1)) (plt_data.symm.trans c3)
      refine ⟨r :: rows, by rw [e]; rfl, by rw [List.length_cons]; omega, fun x hx => ?_, .cons (fun x hx => (ha x hx).2) hp⟩
      rcases List.mem_cons.mp hx with rfl | hx
      · exact ⟨hr, br⟩
      · exact ⟨(ha x hx).1, plt_trans br (ha x hx).2⟩
theorem badLt_good {js : List Job} : ∀ {rows : List LateR} {i : Nat} {b : LateR}, i + rows.length ≤ 200 → (∀ r ∈ rows, LateIn js r ∧ PLt b r) → rows.Pairwise PLt → badLt js (rows.map lateRow) i (lateP b.1 b.2.1) = none
  | [], _, _, _, _, _ => rfl
  | r :: rows, i, b, hi, ha, hp => by
    obtain ⟨h1, h2⟩ := List.pairwise_cons.mp hp
    obtain ⟨a1, a2⟩ := ha r List.mem_cons_self
    rw [List.length_cons] at hi
    show (if 200 ≤ i ∨ isLateB js (lateRow r) = false ∨ PySem.W.dataLt (lateP b.1 b.2.1) (lateP r.1 r.2.1) = false then some i else badLt js (rows.map lateRow) (i + 1) (lateP r.1 r.2.1)) = none
    rw [isLate_yes a1, plt_yes a2, if_neg (by simp; omega)]
    exact badLt_good (b := r) (by omega) (fun x hx => ⟨(ha x (List.mem_cons_of_mem _ hx)).1, h1 x hx⟩) h2
theorem plt_first {js : List Job} {r : LateR} (h : LateIn js r) : PLt ("", 0, 0) r := by
  by_cases e : r.1 = ""
  · exact .inr ⟨e.symm, by have := h.2.1; show (0 : Int) < r.2.1; omega⟩
  · refine .inl ?_
    show ([] : List Nat) < r.1.cps.toList
    cases z : r.1.cps.toList with
    | nil => exact absurd (str_of_cps (b := "") z) e
    | cons a l => exact List.nil_lt_cons a l
/-- by how much a turn of a work is late -/
def lateF (js : List Job) (rows : List LateR) (k : Nat) (t : Int) : Int := rows.foldl (fun acc r => if r.1 = (jAt js k).1 ∧ r.2.1 = t then r.2.2 else acc) 0
theorem lateF_snoc {js : List Job} {rows : List LateR} {r : LateR} {k : Nat} {t : Int} : lateF js (rows ++ [r]) k t = if r.1 = (jAt js k).1 ∧ r.2.1 = t then r.2.2 else lateF js rows k t := by
  unfold lateF
  rw [List.foldl_append]; rfl
theorem lateF_nn {js : List Job} {k : Nat} {t : Int} : ∀ {rows : List LateR} {a : Int}, 0 ≤ a → (∀ r ∈ rows, 0 ≤ r.2.2) → 0 ≤ rows.foldl (fun acc r => if r.1 = (jAt js k).1 ∧ r.2.1 = t then r.2.2 else acc) a
  | [], _, h, _ => h
  | r :: rows, a, h, g => by
    rw [List.foldl_cons]
    refine lateF_nn ?_ fun x hx => g x (List.mem_cons_of_mem _ hx)
    split
    · exact g r List.mem_cons_self
    · exact h
/-! ## a run from its first standing -/
structure RowsOk (js : List Job) (rows : List LateR) : Prop where
  len : rows.length ≤ 200
  ins : ∀ r ∈ rows, LateIn js r
  asc : rows.Pairwise PLt
theorem rows_of_bad {js : List Job} {ds : List PyData} (h : badLt js ds 0 (lateP "" 0) = none) : ∃ rows, ds = rows.map lateRow ∧ RowsOk js rows := by
  obtain ⟨rows, e, h1, h2, h3⟩ := badLt_rows (b := ("", 0, 0)) (Nat.zero_le _) h
  exact ⟨rows, e, by omega, fun r hr => (h2 r hr).1, h3⟩
theorem bad_of_rows {js : List Job} {rows : List LateR} (h : RowsOk js rows) : badLt js (rows.map lateRow) 0 (lateP "" 0) = none :=
  badLt_good (b := ("", 0, 0)) (by have := h.len; omega) (fun r hr => ⟨h.ins r hr, plt_first (h.ins r hr)⟩) h.asc
theorem RowsOk.nn {js : List Job} {rows : List LateR} (h : RowsOk js rows) (k : Nat) (t : Int) : 0 ≤ lateF js rows k t := lateF_nn (Int.le_refl _) fun r hr => by have := (h.ins r hr).2.2.2.1; omega
abbrev playR (rows : List LateR) (r n : Nat) (js : List Job) (f : Nat) : List (List Int) × Option (Int × Nat × Int) := playN (lateF js rows) r n (spanN js) js f 0 (List.replicate js.length 1) ((List.range js.length).map fun k => (0, - lateF js rows k 1))
/-! ## what is asked of the program -/
def spIsLate (K : PySem.W.Frag) (C : Addr) : Sp := fun vs H Q _ => ∃ (a : Addr) (n : Nat) (js : List Job) (v : V) (d : PyData), vs = [.ref a, v] ∧ LotAt K C H a n js ∧ Dp K H v d ∧ Q (.bl (isLateB js d)) H
def spCheckLatesX (K : PySem.W.Frag) (C CI : Addr) : Sp := fun vs H Q E => ∃ (a : Addr) (n : Nat) (js : List Job) (v : V) (o : Option PyData), vs = [.ref a, v] ∧ LotAt K C H a n js ∧ AnyV K H v o ∧ (latesWrong js o = none → ∀ H', Same H H' → Q .non H') ∧ ∀ u, latesWrong js o = some u → Raise1 CI "index" u H E
def spDelays (K : PySem.W.Frag) (C : Addr) : Sp := fun vs H Q _ => ∃ (a : Addr) (n : Nat) (js : List Job) (v : V) (rows : List LateR), vs = [.ref a, v] ∧ LotAt K C H a n js ∧ Good 16 js ∧ js.length ≤ 6 ∧ Dp K H v (latesD rows) ∧ RowsOk js rows ∧
  ∀ (p : Addr) (xs : List V) (H' : Hp), H p = none → Same H H' → H' p = some (.lst xs) → LateD H' xs js (lateF js rows) → Q (.ref p) H'
def spRunX (K : PySem.W.Frag) (C CL CR CI CN : Addr) : Sp := fun vs H Q E => ∃ (v x y z : V) (o : Option (Nat × List Job)) (ro : Option Nat) (od : Option PyData) (k : Option Int), vs = [v, x, y, z] ∧ LotOr K C H v o ∧ RuleV K H x ro ∧ AnyV K H y od ∧ KindV K H z k ∧
  (∀ n js, o = some (n, js) → Good 16 js ∧ 0 < js.length ∧ js.length ≤ 6 ∧ spanN js ≤ 1000000) ∧
  (o = none → Raise1 CL "given" v H E) ∧ (∀ n js, o = some (n, js) → ro = none → Raise1 CR "given" x H E) ∧ (∀ n js r u, o = some (n, js) → ro = some r → latesWrong js od = some u → Raise1 CI "index" u H E) ∧
  (∀ n js r, o = some (n, js) → ro = some r → latesWrong js od = none → inRg k 0 2000 = false → Raise1 CN "given" z H E) ∧
  ∀ (n : Nat) (js : List Job) (r : Nat) (rows : List LateR) (f : Nat), o = some (n, js) → ro = some r → od = some (latesD rows) → RowsOk js rows → k = some (f : Int) → f ≤ 2000 →
    ∀ (p pr : Addr) (us : List V) (lv : V) (H' : Hp), Same H H' → H' p = some (.tup [.ref pr, lv]) → H' pr = some (.tup us) → RowT H' us (playR rows r n js f).1 → LostV H' js lv (playR rows r n js f).2 → Q (.ref p) H'
end Ts
namespace Ts
open PySem PySem.Spec PyProof.Rows L2 L2H LamX
/-! ## the law's own lates: a dict of pairs, then sorted rows -/
/-! ## sorted rows -/
/-! ## tuples of texts and numbers stay where tuples stay -/
def TupStay (H H' : Hp) : Prop := (∀ a xs, H a = some (.tup xs) → H' a = some (.tup xs)) ∧ ∀ a o xs, H a = some (.frz o (.tup xs)) → H' a = some (.frz o (.tup xs))
theorem SqT.stay {K : PySem.W.Frag} {H H' : Hp} {a : Addr} {xs : List V} (s : TupStay H H') (h : SqT K H a xs) : SqT K H' a xs := by
  rcases h with (h | ⟨o, h⟩) | h
  · exact .inl (.inl (s.1 _ _ h))
  · exact .inl (.inr ⟨o, s.2 _ _ _ h⟩)
  · exact .inr h
/-! ## what is asked -/
end Ts
namespace Ts
open PySem PySem.Spec PyProof.Rows L2 L2H LamX
/-! ## lambdas with calls of their own -/
theorem pe_eq {X : Cx} {e : Expr} {t u : TE} (h : PE X e u) (q : u = t) : PE X e t := q ▸ h
theorem blkOk_lam {X : Cx} {A : Around} {outer : List Env} {s : Shared} {H : Hp} {E : XK} {scope1 scope : Scope} {f c' : Addr} {N : List Str} {own : List (Str × Nat)} (hN : X.N = N) (h : blkC N scope1 scope own = true) :
    BlkOk (lamCx X A outer s H E scope1 f c').N (lamCx X A outer s H E scope1 f c').env.scope scope own := by
  subst hN
  exact blkOk_by h
def rJoinK (K : PySem.W.Frag) : V → List V → Hp → VK → Prop := fun x xs H Q => ∃ a p, ∃ ys : List Str, x = .str a ∧ xs = [.ref p] ∧ (SqL K H p (ys.map V.str) ∨ SqT K H p (ys.map V.str)) ∧ (ys.map (·.length)).sum + ys.length * a.length ≤ 16777216 ∧ Q (.str (Txt.join a ys)) H
theorem pe_joinK {X : Cx} {K : PySem.W.Frag} {o e : Expr} {to te : TE} {apos pos : Pos} (hK : X.K = K) (ho : PE X o to) (he : PE X e te) (hs : starEach [e] X.env = [(false, eval e X.env)] := by rfl) (hbase : attributeBase o "join" X.env (eval o X.env) = eval o X.env := by rfl) (hline : (apos.endLine == pos.line) = true := by rfl) :
    PE X (.Call (.Attribute o "join" apos) [e] [] pos) (tM1 (rJoinK K) to te) := by
  subst hK
  exact pe_join ho he hs hbase hline
/-! ## what is wrong with lates -/
def absL : List (Str × Str) := [("a", "b"), ("hands", "work"), ("q", "qq")]
def jsAB (a b : Str) : List Job := [(b, 1, 2), (a, 1, 3)]
def rowW (x y z : PyData) : PyData := .tuple [x, y, z]
def wrongs (a b : Str) : List (PyData × Option Nat) :=
  let g := rowW (.str a) (.int 2) (.int 1)
  [(.none, none), (.list [g], none), (.str "a", none), (.int 0, none), (.tuple [g, g], some 1), (.tuple [g, rowW (.str a) (.int 1) (.int 1)], some 1),
   (.tuple [.none], some 0), (.tuple [.tuple [.str a, .int 2]], some 0), (.tuple [rowW (.str a) (.int 0) (.int 1)], some 0), (.tuple [rowW (.str a) (.int 2) (.int 0)], some 0), (.tuple [rowW (.str a) (.bool true) (.int 1)], some 0),
   (.tuple [rowW (.str a) (.int 1000001) (.int 1)], some 0), (.tuple [rowW (.str a) (.int 1) (.int 1000001)], some 0), (.tuple [rowW (.str a) (.int 1) (.str "1")], some 0),
   (.tuple [.list [.str a, .int 1, .int 1]], some 0), (.tuple [rowW (.str (b ++ "x")) (.int 1) (.int 1)], some 0), (.tuple [g, rowW .none (.int 3) (.int 1)], some 1),
   (.tuple [rowW (.str b) (.int 1) (.int 1), g], some 1), (.tuple [g, rowW (.str a) (.int 2) (.int 5)], some 1), (.tuple ((List.range 201).map fun k : Nat => rowW (.str a) (.int ((k : Int) + 1)) (.int 1)), some 200)]
def dueQ : Option Nat → V
  | none => .non
  | some k => .int (k : Int)
theorem wrongs_bad : ∀ p ∈ absL, ∀ q ∈ wrongs p.1 p.2, latesWrong (jsAB p.1 p.2) (some q.1) = some (dueQ q.2) := by
  decide +kernel
def dueP : Option Nat → PyData
  | none => .none
  | some k => .int (k : Int)
def wrongD (p : PyData × Option Nat) : PyData := .tuple [p.1, dueP p.2]
theorem dp_pow6 {K : PySem.W.Frag} {H : Hp} : Dp K H (.int ((10 : Int) ^ (6 : Int).toNat + 1)) (.int 1000001) := by
  have e : (10 : Int) ^ (6 : Int).toNat + 1 = 1000001 := by decide
  rw [e]
  exact .int _
def spWrong44 (K : PySem.W.Frag) : Sp := fun vs H Q _ => ∃ a b : Str, vs = [.str a, .str b] ∧ b.length ≤ 100 ∧ ∀ (p : Addr) (xs : List V) (H' : Hp), Same H H' → H' p = some (.lst xs) → DpAll K H' xs ((wrongs a b).map wrongD) → Q (.ref p) H'
/-! ## too much for a search -/
def spWorstX (K : PySem.W.Frag) (C CL CR CY : Addr) : Sp := fun vs H Q E => ∃ (v x : V) (o : Option (Nat × List Job)) (ro : Option Nat), vs = [v, x] ∧ LotOr K C H v o ∧ RuleV K H x ro ∧ (∀ n js, o = some (n, js) → 0 < js.length ∧ js.length ≤ 6) ∧
  (o = none → Raise1 CL "given" v H E) ∧ (∀ n js, o = some (n, js) → ro = none → Raise1 CR "given" x H E) ∧ (∀ n js r, o = some (n, js) → ro = some r → 4 < js.length → Raise1 CY "limit" (.int 4) H E) ∧
  ∀ n js r, o = some (n, js) → ro = some r → js.length ≤ 4 → (∃ j ∈ js, 6 < j.2.2) ∧ Raise1 CY "limit" (.int 6) H E
theorem run_callX {K : PySem.W.Frag} {C CL CR CI CN a : Addr} {n r f : Nat} {js : List Job} {rows : List LateR} {x : Str} {y : V} {Hm : Hp} {Q' : VK} {E : XK} (R : RowsOk js rows) (L : LotAt K C Hm a n js) (G : Good 16 js) (l0 : 0 < js.length) (l6 : js.length ≤ 6) (sp : spanN js ≤ 1000000) (hx : ruleW[r]? = some x) (hy : Dp K Hm y (latesD rows)) (hf : f ≤ 2000)
    (q : ∀ (p : Addr) (H' : Hp), Same Hm H' → Q' (.ref p) H') : spRunX K C CL CR CI CN [.ref a, .str x, y, .int (f : Int)] Hm Q' E := by
  have lw : latesWrong js (some (latesD rows)) = none := by
    show (badLt js (rows.map lateRow) 0 (lateP "" 0)).map _ = none
    rw [bad_of_rows R]; rfl
  refine ⟨.ref a, .str x, y, .int (f : Int), some (n, js), some r, some (latesD rows), some (f : Int), rfl, ⟨a, rfl, L⟩, ⟨x, rfl, hx⟩, hy, rfl, (fun n' js' e => by cases e; exact ⟨G, l0, l6, sp⟩), (fun e => by cases e), (fun _ _ _ e => by cases e), (fun n' js' r' u e _ h => by cases e; rw [lw] at h; cases h), (fun n' js' r' _ _ _ h => ?_), fun n' js' r' rows' f' e1 e2 e3 _ e5 _ p pr us lv H' s' _ _ _ _ => q p H' s'⟩
  have : inRg (some (f : Int)) 0 2000 = true := decide_eq_true (show (0 : Int) ≤ (f : Int) ∧ (f : Int) ≤ 2000 by omega)
  rw [this] at h; cases h
def rowsA (a : Str) : List LateR := (List.range 200).map fun k : Nat => (a, (k : Int) + 1, 1)
theorem rowsA_ok {js : List Job} {a : Str} (h : a ∈ js.map (·.1)) : RowsOk js (rowsA a) := by
  refine ⟨by unfold rowsA; rw [List.length_map, List.length_range]; exact Nat.le_refl _, fun r hr => ?_, ?_⟩
  · obtain ⟨k, hk, rfl⟩ := List.mem_map.mp hr
    have := List.mem_range.mp hk
    exact ⟨h, by show (1 : Int) ≤ (k : Int) + 1; omega, by show (k : Int) + 1 ≤ 1000000; omega, by show (1 : Int) ≤ 1; decide, by show (1 : Int) ≤ 1000000; decide⟩
  · unfold rowsA
    exact List.Pairwise.map _ (fun i j hij => .inr ⟨rfl, by show (i : Int) + 1 < (j : Int) + 1; omega⟩) List.pairwise_lt_range
theorem abs_facts : ∀ p ∈ absL, (p.1.length ≤ 10 ∧ p.2.length ≤ 10) ∧ Txt.join "\n" ["hands 1", (("work " : Str) ++ p.2) ++ " 1/2", (("work " : Str) ++ p.1) ++ " 1/3"] = pageS 1 (jsAB p.1 p.2) ∧
    ((["hands 1", (("work " : Str) ++ p.2) ++ " 1/2", (("work " : Str) ++ p.1) ++ " 1/3"] : List Str).map (·.length)).sum + 3 * ("\n" : Str).length ≤ 16777216 ∧ spanN (jsAB p.1 p.2) = 6 ∧ (("work " : Str).length + p.2.length ≤ sizeLine ∧ (("work " : Str) ++ p.2).length + (" 1/2" : Str).length ≤ sizeLine) ∧ (("work " : Str).length + p.1.length ≤ sizeLine ∧ (("work " : Str) ++ p.1).length + (" 1/3" : Str).length ≤ sizeLine) := by decide +kernel
theorem abs_good : ∀ p ∈ absL, Good 16 (jsAB p.1 p.2) := by
  have go : ∀ p ∈ absL, ((jsAB p.1 p.2).map (·.1)).Nodup ∧ ∀ j ∈ jsAB p.1 p.2, (1 ≤ j.1.length ∧ j.1.length ≤ 8 ∧ ∀ c ∈ j.1.cps.toList, 97 ≤ c ∧ c ≤ 122) ∧ (1 ≤ j.2.1 ∧ j.2.1 ≤ j.2.2 ∧ j.2.2 ≤ 16 ∧ Nat.gcd j.2.1 j.2.2 = 1) := by decide +kernel
  intro p hp
  exact ⟨(go p hp).1, fun j hj => ((go p hp).2 j hj).1, fun j hj => ((go p hp).2 j hj).2⟩
def sevJ : List Job := [("v", 1, 7), ("w", 1, 7), ("x", 1, 7), ("y", 1, 7)]
def fivJ : List Job := sevJ ++ ([("z", 1, 2)] : List Job)
def sevT : List Str := (["hands 2"] : List Str) ++ (["v", "w", "x", "y"] : List Str).map fun t => (("work " : Str) ++ t) ++ " 1/7"
theorem sev_facts : Txt.join "\n" sevT = pageS 2 sevJ ∧ Txt.join "\n" (sevT ++ (["work z 1/2"] : List Str)) = pageS 2 fivJ ∧ (sevT.map (·.length)).sum + sevT.length * ("\n" : Str).length ≤ 16777216 ∧ ((sevT ++ (["work z 1/2"] : List Str)).map (·.length)).sum + (sevT ++ (["work z 1/2"] : List Str)).length * ("\n" : Str).length ≤ 16777216 := by decide +kernel
theorem fiv_good : Good 16 fivJ := by
  have go : (fivJ.map (·.1)).Nodup ∧ ∀ j ∈ fivJ, (1 ≤ j.1.length ∧ j.1.length ≤ 8 ∧ ∀ c ∈ j.1.cps.toList, 97 ≤ c ∧ c ≤ 122) ∧ (1 ≤ j.2.1 ∧ j.2.1 ≤ j.2.2 ∧ j.2.2 ≤ 16 ∧ Nat.gcd j.2.1 j.2.2 = 1) := by decide +kernel
  exact ⟨go.1, fun j hj => (go.2 j hj).1, fun j hj => (go.2 j hj).2⟩
theorem sev_good : Good 16 sevJ := by
  have go : (sevJ.map (·.1)).Nodup ∧ ∀ j ∈ sevJ, (1 ≤ j.1.length ∧ j.1.length ≤ 8 ∧ ∀ c ∈ j.1.cps.toList, 97 ≤ c ∧ c ≤ 122) ∧ (1 ≤ j.2.1 ∧ j.2.1 ≤ j.2.2 ∧ j.2.2 ≤ 16 ∧ Nat.gcd j.2.1 j.2.2 = 1) := by decide +kernel
  exact ⟨go.1, fun j hj => (go.2 j hj).1, fun j hj => (go.2 j hj).2⟩
/-! ## what a call that is caught tells -/
theorem run_told {K : PySem.W.Frag} {C : Addr} {c : Cls9} {b3 : Bas3} (EL : SortI K c b3 c.l 0 "NotALot") (ER : SortI K c b3 c.r 3 "InvalidRule") (EI : SortI K c b3 c.a 6 "InvalidLates") (EN : SortI K c b3 c.n 2 "InvalidNumber") {v x y z : V} {o : Option (Nat × List Job)} {ro : Option Nat} {od : Option PyData} {k : Option Int} {Hm : Hp} {Qv : VK}
    (hv : LotOr K C Hm v o) (hx : RuleV K Hm x ro) (hy : AnyV K Hm y od) (hz : KindV K Hm z k) (hG : ∀ n js, o = some (n, js) → Good 16 js ∧ 0 < js.length ∧ js.length ≤ 6 ∧ spanN js ≤ 1000000) (w : Str × V)
    (hw : (o = none ∧ w = (("NotALot" : Str), v)) ∨ (o ≠ none ∧ ro = none ∧ w = (("InvalidRule" : Str), x)) ∨ (o ≠ none ∧ ro ≠ none ∧ (∀ n js, o = some (n, js) → ∃ u, latesWrong js od = some u ∧ w = (("InvalidLates" : Str), u))) ∨ (o ≠ none ∧ ro ≠ none ∧ (∀ n js, o = some (n, js) → latesWrong js od = none) ∧ inRg k 0 2000 = false ∧ w = (("InvalidNumber" : Str), z)))
    (q : ∀ (l : Addr) (H2 : Hp), Same Hm H2 → H2 l = some (.tup [.str w.1, w.2]) → Qv (.ref l) H2) : spRunX K C c.l c.r c.a c.n [v, x, y, z] Hm (CaughtQ Qv) (CaughtE K c b3 Qv) := by
  refine ⟨v, x, y, z, o, ro, od, k, rfl, hv, hx, hy, hz, hG, fun e => ?_, fun n js e1 e2 => ?_, fun n js r u e1 e2 e3 => ?_, fun n js r e1 e2 e3 e4 => ?_, fun n js r rows f e1 e2 e3 R e5 e6 => ?_⟩
  · rcases hw with ⟨_, rfl⟩ | ⟨h, _⟩ | ⟨h, _⟩ | ⟨h, _⟩
    · exact raise_caught EL rfl q
    · exact absurd e h
    · exact absurd e h
    · exact absurd e h
  · rcases hw with ⟨h, _⟩ | ⟨_, _, rfl⟩ | ⟨_, h, _⟩ | ⟨_, h, _⟩
    · rw [e1] at h; cases h
    · exact raise_caught ER rfl q
    · exact absurd e2 h
    · exact absurd e2 h
  · rcases hw with ⟨h, _⟩ | ⟨_, h, _⟩ | ⟨_, _, h⟩ | ⟨_, _, h, _⟩
    · rw [e1] at h; cases h
    · rw [e2] at h; cases h
    · obtain ⟨u', hu, rfl⟩ := h n js e1
      rw [e3] at hu
      cases Option.some.inj hu
      exact raise_caught EI rfl q
    · rw [h n js e1] at e3; cases e3
  · rcases hw with ⟨h, _⟩ | ⟨_, h, _⟩ | ⟨_, _, h⟩ | ⟨_, _, _, _, rfl⟩
    · rw [e1] at h; cases h
    · rw [e2] at h; cases h
    · obtain ⟨u', hu, _⟩ := h n js e1
      rw [e3] at hu; cases hu
    · exact raise_caught EN rfl q
  · have lw : latesWrong js od = none := by
      rw [e3]
      show (badLt js (rows.map lateRow) 0 (lateP "" 0)).map _ = none
      rw [bad_of_rows R]; rfl
    rcases hw with ⟨h, _⟩ | ⟨_, h, _⟩ | ⟨_, _, h⟩ | ⟨_, _, _, h, _⟩
    · rw [e1] at h; cases h
    · rw [e2] at h; cases h
    · obtain ⟨u', hu, _⟩ := h n js e1
      rw [lw] at hu; cases hu
    · rw [e5, show inRg (some (f : Int)) 0 2000 = true from decide_eq_true (show (0 : Int) ≤ (f : Int) ∧ (f : Int) ≤ 2000 by omega)] at h
      cases h
theorem worst_told {K : PySem.W.Frag} {C : Addr} {c : Cls9} {b3 : Bas3} (EL : SortI K c b3 c.l 0 "NotALot") (ER : SortI K c b3 c.r 3 "InvalidRule") (EY : SortI K c b3 c.y 8 "TooMany") {v x : V} {o : Option (Nat × List Job)} {ro : Option Nat} {Hm : Hp} {Qv : VK}
    (hv : LotOr K C Hm v o) (hx : RuleV K Hm x ro) (hG : ∀ n js, o = some (n, js) → 0 < js.length ∧ js.length ≤ 6) (w : Str × V)
    (hw : (o = none ∧ w = (("NotALot" : Str), v)) ∨ (o ≠ none ∧ ro = none ∧ w = (("InvalidRule" : Str), x)) ∨ (o ≠ none ∧ ro ≠ none ∧ (∀ n js, o = some (n, js) → 4 < js.length) ∧ w = (("TooMany" : Str), V.int 4)) ∨ (o ≠ none ∧ ro ≠ none ∧ (∀ n js, o = some (n, js) → js.length ≤ 4 ∧ ∃ j ∈ js, 6 < j.2.2) ∧ w = (("TooMany" : Str), V.int 6)))
    (q : ∀ (l : Addr) (H2 : Hp), Same Hm H2 → H2 l = some (.tup [.str w.1, w.2]) → Qv (.ref l) H2) : spWorstX K C c.l c.r c.y [v, x] Hm (CaughtQ Qv) (CaughtE K c b3 Qv) := by
  refine ⟨v, x, o, ro, rfl, hv, hx, hG, fun e => ?_, fun n js e1 e2 => ?_, fun n js r e1 e2 e3 => ?_, fun n js r e1 e2 e3 => ?_⟩
  · rcases hw with ⟨_, rfl⟩ | ⟨h, _⟩ | ⟨h, _⟩ | ⟨h, _⟩
    · exact raise_caught EL rfl q
    · exact absurd e h
    · exact absurd e h
    · exact absurd e h
  · rcases hw with ⟨h, _⟩ | ⟨_, _, rfl⟩ | ⟨_, h, _⟩ | ⟨_, h, _⟩
    · rw [e1] at h; cases h
    · exact raise_caught ER rfl q
    · exact absurd e2 h
    · exact absurd e2 h
  · rcases hw with ⟨h, _⟩ | ⟨_, h, _⟩ | ⟨_, _, _, rfl⟩ | ⟨_, _, h, _⟩
    · rw [e1] at h; cases h
    · rw [e2] at h; cases h
    · exact raise_caught EY rfl q
    · have := (h n js e1).1; omega
  · rcases hw with ⟨h, _⟩ | ⟨_, h, _⟩ | ⟨_, _, h, _⟩ | ⟨_, _, h, rfl⟩
    · rw [e1] at h; cases h
    · rw [e2] at h; cases h
    · have := h n js e1; omega
    · exact ⟨(h n js e1).2, raise_caught EY rfl q⟩
end Ts
namespace Ts
open PySem PySem.Spec PyProof.Rows L2 L2H LamX
abbrev s_InvalidNumber___init__ : Stmt := inClass (top 5) 0
theorem sc_InvalidNumber___init__ : FnScope ["self", "given"] ["self", "given"] (defScope s_InvalidNumber___init__) := ⟨rfl, rfl, rfl, by decide +kernel, rfl, by decide +kernel, by decide +kernel⟩
abbrev s_InvalidRule___init__ : Stmt := inClass (top 6) 0
theorem sc_InvalidRule___init__ : FnScope ["self", "given"] ["self", "given"] (defScope s_InvalidRule___init__) := ⟨rfl, rfl, rfl, by decide +kernel, rfl, by decide +kernel, by decide +kernel⟩
abbrev s_NotALot___init__ : Stmt := inClass (top 9) 0
theorem sc_NotALot___init__ : FnScope ["self", "given"] ["self", "given"] (defScope s_NotALot___init__) := ⟨rfl, rfl, rfl, by decide +kernel, rfl, by decide +kernel, by decide +kernel⟩
abbrev s_InvalidLates___init__ : Stmt := inClass (top 10) 0
theorem sc_InvalidLates___init__ : FnScope ["self", "index"] ["self", "index"] (defScope s_InvalidLates___init__) := ⟨rfl, rfl, rfl, by decide +kernel, rfl, by decide +kernel, by decide +kernel⟩
abbrev s_TooMany___init__ : Stmt := inClass (top 15) 0
theorem sc_TooMany___init__ : FnScope ["self", "limit"] ["self", "limit"] (defScope s_TooMany___init__) := ⟨rfl, rfl, rfl, by decide +kernel, rfl, by decide +kernel, by decide +kernel⟩
abbrev s_is_number : Stmt := top 24
theorem sc_is_number : FnScope ["value", "low", "high"] ["value", "low", "high"] (defScope s_is_number) := ⟨rfl, rfl, rfl, by decide +kernel, rfl, by decide +kernel, by decide +kernel⟩
abbrev s_is_number_from : Stmt := top 25
theorem sc_is_number_from : FnScope ["value", "low"] ["value", "low"] (defScope s_is_number_from) := ⟨rfl, rfl, rfl, by decide +kernel, rfl, by decide +kernel, by decide +kernel⟩
abbrev s_is_name : Stmt := top 26
theorem sc_is_name : FnScope ["value", "letter"] ["value"] (defScope s_is_name) := ⟨rfl, rfl, rfl, by decide +kernel, rfl, by decide +kernel, by decide +kernel⟩
abbrev s_is_share : Stmt := top 27
theorem sc_is_share : FnScope ["value", "top", "bottom"] ["value"] (defScope s_is_share) := ⟨rfl, rfl, rfl, by decide +kernel, rfl, by decide +kernel, by decide +kernel⟩
abbrev s_check_number : Stmt := top 28
theorem sc_check_number : FnScope ["number", "low", "high"] ["number", "low", "high"] (defScope s_check_number) := ⟨rfl, rfl, rfl, by decide +kernel, rfl, by decide +kernel, by decide +kernel⟩
abbrev s_Lot___init__ : Stmt := inClass (top 30) 0
theorem sc_Lot___init__ : FnScope ["self", "text", "first", "rows", "hands", "works"] ["self", "text"] (defScope s_Lot___init__) := ⟨rfl, rfl, rfl, by decide +kernel, rfl, by decide +kernel, by decide +kernel⟩
abbrev s_Lot_hands : Stmt := inClass (top 30) 2
theorem sc_Lot_hands : FnScope ["self"] ["self"] (defScope s_Lot_hands) := ⟨rfl, rfl, rfl, by decide +kernel, rfl, by decide +kernel, by decide +kernel⟩
abbrev s_Lot_names : Stmt := inClass (top 30) 3
theorem sc_Lot_names : FnScope ["self"] ["self"] (defScope s_Lot_names) := ⟨rfl, rfl, rfl, by decide +kernel, rfl, by decide +kernel, by decide +kernel⟩
abbrev s_Lot_shares : Stmt := inClass (top 30) 4
theorem sc_Lot_shares : FnScope ["self"] ["self"] (defScope s_Lot_shares) := ⟨rfl, rfl, rfl, by decide +kernel, rfl, by decide +kernel, by decide +kernel⟩
abbrev s_Lot_span : Stmt := inClass (top 30) 6
theorem sc_Lot_span : FnScope ["self"] ["self"] (defScope s_Lot_span) := ⟨rfl, rfl, rfl, by decide +kernel, rfl, by decide +kernel, by decide +kernel⟩
abbrev s_check_lot : Stmt := top 31
theorem sc_check_lot : FnScope ["lot"] ["lot"] (defScope s_check_lot) := ⟨rfl, rfl, rfl, by decide +kernel, rfl, by decide +kernel, by decide +kernel⟩
abbrev s__read_hands : Stmt := top 32
theorem sc__read_hands : FnScope ["row", "words"] ["row"] (defScope s__read_hands) := ⟨rfl, rfl, rfl, by decide +kernel, rfl, by decide +kernel, by decide +kernel⟩
abbrev s__read_works : Stmt := top 33
theorem sc__read_works : FnScope ["rows", "works", "row", "work"] ["rows"] (defScope s__read_works) := ⟨rfl, rfl, rfl, by decide +kernel, rfl, by decide +kernel, by decide +kernel⟩
abbrev s__read_work : Stmt := top 34
theorem sc__read_work : FnScope ["row", "words", "word", "share"] ["row"] (defScope s__read_work) := ⟨rfl, rfl, rfl, by decide +kernel, rfl, by decide +kernel, by decide +kernel⟩
abbrev s__read_number : Stmt := top 35
theorem sc__read_number : FnScope ["word", "most", "number"] ["word", "most"] (defScope s__read_number) := ⟨rfl, rfl, rfl, by decide +kernel, rfl, by decide +kernel, by decide +kernel⟩
abbrev s__span_of : Stmt := top 36
theorem sc__span_of : FnScope ["shares", "span", "_", "bottom"] ["shares"] (defScope s__span_of) := ⟨rfl, rfl, rfl, by decide +kernel, rfl, by decide +kernel, by decide +kernel⟩
abbrev s__total_of : Stmt := top 37
theorem sc__total_of : FnScope ["shares", "span", "top", "bottom", "parts", "common"] ["shares", "span"] (defScope s__total_of) := ⟨rfl, rfl, rfl, by decide +kernel, rfl, by decide +kernel, by decide +kernel⟩
abbrev s_begin_of : Stmt := top 39
theorem sc_begin_of : FnScope ["share", "turn", "top", "bottom"] ["share", "turn"] (defScope s_begin_of) := ⟨rfl, rfl, rfl, by decide +kernel, rfl, by decide +kernel, by decide +kernel⟩
abbrev s_border_of : Stmt := top 40
theorem sc_border_of : FnScope ["share", "turn", "top", "bottom"] ["share", "turn"] (defScope s_border_of) := ⟨rfl, rfl, rfl, by decide +kernel, rfl, by decide +kernel, by decide +kernel⟩
abbrev s_overlaps_of : Stmt := top 41
theorem sc_overlaps_of : FnScope ["share", "turn"] ["share", "turn"] (defScope s_overlaps_of) := ⟨rfl, rfl, rfl, by decide +kernel, rfl, by decide +kernel, by decide +kernel⟩
abbrev s_group_border_of : Stmt := top 42
theorem sc_group_border_of : FnScope ["share", "turn", "top", "bottom"] ["share", "turn"] (defScope s_group_border_of) := ⟨rfl, rfl, rfl, by decide +kernel, rfl, by decide +kernel, by decide +kernel⟩
abbrev s__quotient_up : Stmt := top 43
theorem sc__quotient_up : FnScope ["top", "bottom"] ["top", "bottom"] (defScope s__quotient_up) := ⟨rfl, rfl, rfl, by decide +kernel, rfl, by decide +kernel, by decide +kernel⟩
abbrev s__rank_by_nearest : Stmt := top 45
theorem sc__rank_by_nearest : FnScope ["share", "turn", "moment", "_"] ["share", "turn", "moment", "_"] (defScope s__rank_by_nearest) := ⟨rfl, rfl, rfl, by decide +kernel, rfl, by decide +kernel, by decide +kernel⟩
abbrev s__rank_by_overlap : Stmt := top 46
theorem sc__rank_by_overlap : FnScope ["share", "turn", "moment", "_"] ["share", "turn", "moment", "_"] (defScope s__rank_by_overlap) := ⟨rfl, rfl, rfl, by decide +kernel, rfl, by decide +kernel, by decide +kernel⟩
abbrev s__rank_by_keen : Stmt := top 47
theorem sc__rank_by_keen : FnScope ["share", "turn", "moment", "_", "left", "group"] ["share", "turn", "moment", "_"] (defScope s__rank_by_keen) := ⟨rfl, rfl, rfl, by decide +kernel, rfl, by decide +kernel, by decide +kernel⟩
abbrev s__rank_by_behind : Stmt := top 48
theorem sc__rank_by_behind : FnScope ["share", "turn", "moment", "span", "top", "bottom"] ["share", "turn", "moment", "span"] (defScope s__rank_by_behind) := ⟨rfl, rfl, rfl, by decide +kernel, rfl, by decide +kernel, by decide +kernel⟩
abbrev s_Pace___init__ : Stmt := inClass (top 50) 0
theorem sc_Pace___init__ : FnScope ["self", "share", "rule", "span", "turns", "turn"] ["self", "share", "rule", "span"] (defScope s_Pace___init__) := ⟨rfl, rfl, rfl, by decide +kernel, rfl, by decide +kernel, by decide +kernel⟩
abbrev s_Pace_place_behind : Stmt := inClass (top 50) 1
theorem sc_Pace_place_behind : FnScope ["self", "place"] ["self", "place"] (defScope s_Pace_place_behind) := ⟨rfl, rfl, rfl, by decide +kernel, rfl, by decide +kernel, by decide +kernel⟩
abbrev s_paces_of : Stmt := top 51
theorem sc_paces_of : FnScope ["lot", "rule", "share"] ["lot", "rule"] (defScope s_paces_of) := ⟨rfl, rfl, rfl, by decide +kernel, rfl, by decide +kernel, by decide +kernel⟩
abbrev s_order_of : Stmt := top 52
theorem sc_order_of : FnScope ["paces", "stands", "at", "place", "since", "due", "_"] ["paces", "stands"] (defScope s_order_of) := ⟨rfl, rfl, rfl, by decide +kernel, rfl, by decide +kernel, by decide +kernel⟩
abbrev s__ranks_of : Stmt := top 53
theorem sc__ranks_of : FnScope ["share", "rule", "span", "turn", "ranking", "moment"] ["share", "rule", "span", "turn"] (defScope s__ranks_of) := ⟨rfl, rfl, rfl, by decide +kernel, rfl, by decide +kernel, by decide +kernel⟩
abbrev s_play : Stmt := top 63
theorem sc_play : FnScope ["lot", "rule", "delays", "ticks", "paces", "turns", "late", "stands", "told", "moment", "crew", "at", "pace", "place", "since"] ["lot", "rule", "delays", "ticks"] (defScope s_play) := ⟨rfl, rfl, rfl, by decide +kernel, rfl, by decide +kernel, by decide +kernel⟩
abbrev s_is_rule : Stmt := top 66
theorem sc_is_rule : FnScope ["value"] ["value"] (defScope s_is_rule) := ⟨rfl, rfl, rfl, by decide +kernel, rfl, by decide +kernel, by decide +kernel⟩
abbrev s_check_rule : Stmt := top 67
theorem sc_check_rule : FnScope ["rule"] ["rule"] (defScope s_check_rule) := ⟨rfl, rfl, rfl, by decide +kernel, rfl, by decide +kernel, by decide +kernel⟩
abbrev s_run : Stmt := top 73
theorem sc_run : FnScope ["lot", "rule", "lates", "ticks"] ["lot", "rule", "lates", "ticks"] (defScope s_run) := ⟨rfl, rfl, rfl, by decide +kernel, rfl, by decide +kernel, by decide +kernel⟩
abbrev s_worst : Stmt := top 74
theorem sc_worst : FnScope ["lot", "rule", "_", "bottom", "found", "lates", "moment", "lost"] ["lot", "rule"] (defScope s_worst) := ⟨rfl, rfl, rfl, by decide +kernel, rfl, by decide +kernel, by decide +kernel⟩
abbrev s_check_lates : Stmt := top 75
theorem sc_check_lates : FnScope ["lot", "lates", "before", "index", "late"] ["lot", "lates"] (defScope s_check_lates) := ⟨rfl, rfl, rfl, by decide +kernel, rfl, by decide +kernel, by decide +kernel⟩
abbrev s__is_late : Stmt := top 76
theorem sc__is_late : FnScope ["lot", "value", "name", "turn", "by"] ["lot", "value"] (defScope s__is_late) := ⟨rfl, rfl, rfl, by decide +kernel, rfl, by decide +kernel, by decide +kernel⟩
abbrev s__delays_of : Stmt := top 77
theorem sc__delays_of : FnScope ["lot", "lates", "name", "delays", "turn", "by"] ["lot", "lates"] (defScope s__delays_of) := ⟨rfl, rfl, rfl, by decide +kernel, rfl, by decide +kernel, by decide +kernel⟩
abbrev s__law_cell : Stmt := top 79
theorem sc__law_cell : FnScope ["_law_cells", "_law_spot", "_law_mixed", "_law_number"] ["_law_cells", "_law_spot"] (defScope s__law_cell) := ⟨rfl, rfl, rfl, by decide +kernel, rfl, by decide +kernel, by decide +kernel⟩
abbrev s__law_jar : Stmt := top 80
theorem sc__law_jar : FnScope ["_law_cells", "_law_spot", "_law_cell_here"] ["_law_cells", "_law_spot"] (defScope s__law_jar) := ⟨rfl, rfl, rfl, by decide +kernel, rfl, by decide +kernel, by decide +kernel⟩
abbrev s__law_dig : Stmt := top 81
theorem sc__law_dig : FnScope ["_law_jar_here", "_law_many", "_law_mixed", "_law_digit"] ["_law_jar_here", "_law_many"] (defScope s__law_dig) := ⟨rfl, rfl, rfl, by decide +kernel, rfl, by decide +kernel, by decide +kernel⟩
abbrev s__law_take : Stmt := top 82
theorem sc__law_take : FnScope ["_law_jar_here", "_law_some"] ["_law_jar_here", "_law_some"] (defScope s__law_take) := ⟨rfl, rfl, rfl, by decide +kernel, rfl, by decide +kernel, by decide +kernel⟩
abbrev s__law_rules : Stmt := top 83
theorem sc__law_rules : FnScope [] [] (defScope s__law_rules) := ⟨rfl, rfl, rfl, by decide +kernel, rfl, by decide +kernel, by decide +kernel⟩
abbrev s__law_sort : Stmt := top 84
theorem sc__law_sort : FnScope ["_law_e", "_law_found"] ["_law_e"] (defScope s__law_sort) := ⟨rfl, rfl, rfl, by decide +kernel, rfl, by decide +kernel, by decide +kernel⟩
abbrev s__law_caught : Stmt := top 85
theorem sc__law_caught : FnScope ["_law_act", "_law_given", "_law_e"] ["_law_act"] (defScope s__law_caught) := ⟨rfl, rfl, rfl, by decide +kernel, rfl, by decide +kernel, by decide +kernel⟩
abbrev s__law_odd : Stmt := top 86
theorem sc__law_odd : FnScope ["_law_jar_here"] ["_law_jar_here"] (defScope s__law_odd) := ⟨rfl, rfl, rfl, by decide +kernel, rfl, by decide +kernel, by decide +kernel⟩
abbrev s__law_wrong : Stmt := top 87
theorem sc__law_wrong : FnScope ["_law_a", "_law_b", "_law_good", "_law_found", "_law_k"] ["_law_a", "_law_b"] (defScope s__law_wrong) := ⟨rfl, rfl, rfl, by decide +kernel, rfl, by decide +kernel, by decide +kernel⟩
abbrev s__law_right : Stmt := top 88
theorem sc__law_right : FnScope ["_law_jar_here", "_law_odd_here", "_law_word", "_law_wrong_here", "_law_late", "_law_a", "_law_b", "_law_made", "_law_told", "_law_due", "_law_some", "_law_at", "_law_k", "_law_tag", "_law_rows"] ["_law_jar_here"] (defScope s__law_right) := ⟨rfl, rfl, rfl, by decide +kernel, rfl, by decide +kernel, by decide +kernel⟩
abbrev s_law : Stmt := top 89
theorem sc_law : FnScope ["_law_cells", "_law_k"] ["_law_cells"] (defScope s_law) := ⟨rfl, rfl, rfl, by decide +kernel, rfl, by decide +kernel, by decide +kernel⟩
def fF0 : DefF := ⟨fun K => He.ga K "_law_cell", "_law_cell", "_law_cell", s__law_cell⟩
def fF1 : DefF := ⟨fun K => He.ga K "_law_jar", "_law_jar", "_law_jar", s__law_jar⟩
def fF2 : DefF := ⟨fun K => He.ga K "_law_dig", "_law_dig", "_law_dig", s__law_dig⟩
def fF3 : DefF := ⟨fun K => He.ga K "_law_take", "_law_take", "_law_take", s__law_take⟩
def fF4 : DefF := ⟨fun K => He.ga K "_law_rules", "_law_rules", "_law_rules", s__law_rules⟩
def fF5 : DefF := ⟨fun K => He.ga K "_law_sort", "_law_sort", "_law_sort", s__law_sort⟩
def fF6 : DefF := ⟨fun K => He.ga K "_law_caught", "_law_caught", "_law_caught", s__law_caught⟩
def fF7 : DefF := ⟨fun K => He.ga K "_law_odd", "_law_odd", "_law_odd", s__law_odd⟩
def fF8 : DefF := ⟨fun K => He.ga K "_law_wrong", "_law_wrong", "_law_wrong", s__law_wrong⟩
def fF9 : DefF := ⟨fun K => He.ga K "_law_right", "_law_right", "_law_right", s__law_right⟩
def fF10 : DefF := ⟨fun K => He.ga K "law", "law", "law", s_law⟩
def fF11 : DefF := ⟨fun K => He.ga K "is_number", "is_number", "is_number", s_is_number⟩
def fF12 : DefF := ⟨fun K => He.ga K "is_number_from", "is_number_from", "is_number_from", s_is_number_from⟩
def fF13 : DefF := ⟨fun K => He.ga K "is_name", "is_name", "is_name", s_is_name⟩
def fF14 : DefF := ⟨fun K => He.ga K "is_share", "is_share", "is_share", s_is_share⟩
def fF15 : DefF := ⟨fun K => He.ga K "check_lot", "check_lot", "check_lot", s_check_lot⟩
def fF16 : DefF := ⟨fun K => He.ga K "check_number", "check_number", "check_number", s_check_number⟩
def fF17 : DefF := ⟨fun K => He.ga K "_read_hands", "_read_hands", "_read_hands", s__read_hands⟩
def fF18 : DefF := ⟨fun K => He.ga K "_read_works", "_read_works", "_read_works", s__read_works⟩
def fF19 : DefF := ⟨fun K => He.ga K "_read_work", "_read_work", "_read_work", s__read_work⟩
def fF20 : DefF := ⟨fun K => He.ga K "_read_number", "_read_number", "_read_number", s__read_number⟩
def fF21 : DefF := ⟨fun K => He.ga K "_span_of", "_span_of", "_span_of", s__span_of⟩
def fF22 : DefF := ⟨fun K => He.ga K "_total_of", "_total_of", "_total_of", s__total_of⟩
def fF23 : DefF := ⟨fun K => He.ga K "_quotient_up", "_quotient_up", "_quotient_up", s__quotient_up⟩
def fF24 : DefF := ⟨fun K => He.ga K "begin_of", "begin_of", "begin_of", s_begin_of⟩
def fF25 : DefF := ⟨fun K => He.ga K "border_of", "border_of", "border_of", s_border_of⟩
def fF26 : DefF := ⟨fun K => He.ga K "overlaps_of", "overlaps_of", "overlaps_of", s_overlaps_of⟩
def fF27 : DefF := ⟨fun K => He.ga K "group_border_of", "group_border_of", "group_border_of", s_group_border_of⟩
def fF28 : DefF := ⟨fun K => He.ga K "_rank_by_nearest", "_rank_by_nearest", "_rank_by_nearest", s__rank_by_nearest⟩
def fF29 : DefF := ⟨fun K => He.ga K "_rank_by_overlap", "_rank_by_overlap", "_rank_by_overlap", s__rank_by_overlap⟩
def fF30 : DefF := ⟨fun K => He.ga K "_rank_by_keen", "_rank_by_keen", "_rank_by_keen", s__rank_by_keen⟩
def fF31 : DefF := ⟨fun K => He.ga K "_rank_by_behind", "_rank_by_behind", "_rank_by_behind", s__rank_by_behind⟩
def fF32 : DefF := ⟨fun K => He.ga K "_ranks_of", "_ranks_of", "_ranks_of", s__ranks_of⟩
def fF33 : DefF := ⟨fun K => He.ga K "paces_of", "paces_of", "paces_of", s_paces_of⟩
def fF34 : DefF := ⟨fun K => He.ga K "order_of", "order_of", "order_of", s_order_of⟩
def fF35 : DefF := ⟨fun K => He.ga K "play", "play", "play", s_play⟩
def fF36 : DefF := ⟨fun K => He.ga K "is_rule", "is_rule", "is_rule", s_is_rule⟩
def fF37 : DefF := ⟨fun K => He.ga K "check_rule", "check_rule", "check_rule", s_check_rule⟩
def fF38 : DefF := ⟨fun K => He.ga K "_is_late", "_is_late", "_is_late", s__is_late⟩
def fF39 : DefF := ⟨fun K => He.ga K "check_lates", "check_lates", "check_lates", s_check_lates⟩
def fF40 : DefF := ⟨fun K => He.ga K "_delays_of", "_delays_of", "_delays_of", s__delays_of⟩
def fF41 : DefF := ⟨fun K => He.ga K "run", "run", "run", s_run⟩
def fF42 : DefF := ⟨fun K => He.ga K "worst", "worst", "worst", s_worst⟩
def fF43 : DefF := ⟨fun K => He.ma K (He.ga K "Lot") "__init__", "__init__", "Lot.__init__", s_Lot___init__⟩
def fF44 : DefF := ⟨fun K => getAd K (He.ma K (He.ga K "Lot") "shares"), "shares", "Lot.shares", s_Lot_shares⟩
def fF45 : DefF := ⟨fun K => getAd K (He.ma K (He.ga K "Lot") "hands"), "hands", "Lot.hands", s_Lot_hands⟩
def fF46 : DefF := ⟨fun K => getAd K (He.ma K (He.ga K "Lot") "span"), "span", "Lot.span", s_Lot_span⟩
def fF47 : DefF := ⟨fun K => getAd K (He.ma K (He.ga K "Lot") "names"), "names", "Lot.names", s_Lot_names⟩
def fF48 : DefF := ⟨fun K => He.ma K (He.ga K "Pace") "__init__", "__init__", "Pace.__init__", s_Pace___init__⟩
def fF49 : DefF := ⟨fun K => He.ma K (He.ga K "Pace") "place_behind", "place_behind", "Pace.place_behind", s_Pace_place_behind⟩
def fF50 : DefF := ⟨fun K => He.ma K (He.ga K "NotALot") "__init__", "__init__", "NotALot.__init__", s_NotALot___init__⟩
def fF51 : DefF := ⟨fun K => He.ma K (He.ga K "InvalidNumber") "__init__", "__init__", "InvalidNumber.__init__", s_InvalidNumber___init__⟩
def fF52 : DefF := ⟨fun K => He.ma K (He.ga K "InvalidRule") "__init__", "__init__", "InvalidRule.__init__", s_InvalidRule___init__⟩
def fF53 : DefF := ⟨fun K => He.ma K (He.ga K "InvalidLates") "__init__", "__init__", "InvalidLates.__init__", s_InvalidLates___init__⟩
def fF54 : DefF := ⟨fun K => He.ma K (He.ga K "TooMany") "__init__", "__init__", "TooMany.__init__", s_TooMany___init__⟩
def fnF : List DefF := [fF0, fF1, fF2, fF3, fF4, fF5, fF6, fF7, fF8, fF9, fF10, fF11, fF12, fF13, fF14, fF15, fF16, fF17, fF18, fF19, fF20, fF21, fF22, fF23, fF24, fF25, fF26, fF27, fF28, fF29, fF30, fF31, fF32, fF33, fF34, fF35, fF36, fF37, fF38, fF39, fF40, fF41, fF42, fF43, fF44, fF45, fF46, fF47, fF48, fF49, fF50, fF51, fF52, fF53, fF54]
abbrev Ex0 (K : PySem.W.Frag) : Prop := (PySem.W.nsIn K mainGlobals "_law_cell" = some (some (.ref (He.ga K "_law_cell")))) ∧ (PySem.W.keepIn K (.ref (He.ga K "_law_cell")) = true) ∧ (PySem.W.nsIn K mainGlobals "_law_jar" = some (some (.ref (He.ga K "_law_jar")))) ∧ (PySem.W.keepIn K (.ref (He.ga K "_law_jar")) = true) ∧ (PySem.W.nsIn K mainGlobals "_law_dig" = some (some (.ref (He.ga K "_law_dig")))) ∧ (PySem.W.keepIn K (.ref (He.ga K "_law_dig")) = true) ∧ (PySem.W.nsIn K mainGlobals "_law_take" = some (some (.ref (He.ga K "_law_take")))) ∧ (PySem.W.keepIn K (.ref (He.ga K "_law_take")) = true) ∧ (PySem.W.nsIn K mainGlobals "_law_rules" = some (some (.ref (He.ga K "_law_rules")))) ∧ (PySem.W.keepIn K (.ref (He.ga K "_law_rules")) = true) ∧ (PySem.W.nsIn K mainGlobals "_law_sort" = some (some (.ref (He.ga K "_law_sort")))) ∧ (PySem.W.keepIn K (.ref (He.ga K "_law_sort")) = true)
abbrev Ex1 (K : PySem.W.Frag) : Prop := (PySem.W.nsIn K mainGlobals "_law_caught" = some (some (.ref (He.ga K "_law_caught")))) ∧ (PySem.W.keepIn K (.ref (He.ga K "_law_caught")) = true) ∧ (PySem.W.nsIn K mainGlobals "_law_odd" = some (some (.ref (He.ga K "_law_odd")))) ∧ (PySem.W.keepIn K (.ref (He.ga K "_law_odd")) = true) ∧ (PySem.W.nsIn K mainGlobals "_law_wrong" = some (some (.ref (He.ga K "_law_wrong")))) ∧ (PySem.W.keepIn K (.ref (He.ga K "_law_wrong")) = true) ∧ (PySem.W.nsIn K mainGlobals "_law_right" = some (some (.ref (He.ga K "_law_right")))) ∧ (PySem.W.keepIn K (.ref (He.ga K "_law_right")) = true) ∧ (PySem.W.nsIn K mainGlobals "law" = some (some (.ref (He.ga K "law")))) ∧ (PySem.W.keepIn K (.ref (He.ga K "law")) = true) ∧ (PySem.W.nsIn K mainGlobals "is_number" = some (some (.ref (He.ga K "is_number")))) ∧ (PySem.W.keepIn K (.ref (He.ga K "is_number")) = true)
abbrev Ex2 (K : PySem.W.Frag) : Prop := (PySem.W.nsIn K mainGlobals "is_number_from" = some (some (.ref (He.ga K "is_number_from")))) ∧ (PySem.W.keepIn K (.ref (He.ga K "is_number_from")) = true) ∧ (PySem.W.nsIn K mainGlobals "is_name" = some (some (.ref (He.ga K "is_name")))) ∧ (PySem.W.keepIn K (.ref (He.ga K "is_name")) = true) ∧ (PySem.W.nsIn K mainGlobals "is_share" = some (some (.ref (He.ga K "is_share")))) ∧ (PySem.W.keepIn K (.ref (He.ga K "is_share")) = true) ∧ (PySem.W.nsIn K mainGlobals "check_lot" = some (some (.ref (He.ga K "check_lot")))) ∧ (PySem.W.keepIn K (.ref (He.ga K "check_lot")) = true) ∧ (PySem.W.nsIn K mainGlobals "check_number" = some (some (.ref (He.ga K "check_number")))) ∧ (PySem.W.keepIn K (.ref (He.ga K "check_number")) = true) ∧ (PySem.W.nsIn K mainGlobals "_read_hands" = some (some (.ref (He.ga K "_read_hands")))) ∧ (PySem.W.keepIn K (.ref (He.ga K "_read_hands")) = true)
abbrev Ex3 (K : PySem.W.Frag) : Prop := (PySem.W.nsIn K mainGlobals "_read_works" = some (some (.ref (He.ga K "_read_works")))) ∧ (PySem.W.keepIn K (.ref (He.ga K "_read_works")) = true) ∧ (PySem.W.nsIn K mainGlobals "_read_work" = some (some (.ref (He.ga K "_read_work")))) ∧ (PySem.W.keepIn K (.ref (He.ga K "_read_work")) = true) ∧ (PySem.W.nsIn K mainGlobals "_read_number" = some (some (.ref (He.ga K "_read_number")))) ∧ (PySem.W.keepIn K (.ref (He.ga K "_read_number")) = true) ∧ (PySem.W.nsIn K mainGlobals "_span_of" = some (some (.ref (He.ga K "_span_of")))) ∧ (PySem.W.keepIn K (.ref (He.ga K "_span_of")) = true) ∧ (PySem.W.nsIn K mainGlobals "_total_of" = some (some (.ref (He.ga K "_total_of")))) ∧ (PySem.W.keepIn K (.ref (He.ga K "_total_of")) = true) ∧ (PySem.W.nsIn K mainGlobals "_quotient_up" = some (some (.ref (He.ga K "_quotient_up")))) ∧ (PySem.W.keepIn K (.ref (He.ga K "_quotient_up")) = true)
abbrev Ex4 (K : PySem.W.Frag) : Prop := (PySem.W.nsIn K mainGlobals "begin_of" = some (some (.ref (He.ga K "begin_of")))) ∧ (PySem.W.keepIn K (.ref (He.ga K "begin_of")) = true) ∧ (PySem.W.nsIn K mainGlobals "border_of" = some (some (.ref (He.ga K "border_of")))) ∧ (PySem.W.keepIn K (.ref (He.ga K "border_of")) = true) ∧ (PySem.W.nsIn K mainGlobals "overlaps_of" = some (some (.ref (He.ga K "overlaps_of")))) ∧ (PySem.W.keepIn K (.ref (He.ga K "overlaps_of")) = true) ∧ (PySem.W.nsIn K mainGlobals "group_border_of" = some (some (.ref (He.ga K "group_border_of")))) ∧ (PySem.W.keepIn K (.ref (He.ga K "group_border_of")) = true) ∧ (PySem.W.nsIn K mainGlobals "_rank_by_nearest" = some (some (.ref (He.ga K "_rank_by_nearest")))) ∧ (PySem.W.keepIn K (.ref (He.ga K "_rank_by_nearest")) = true) ∧ (PySem.W.nsIn K mainGlobals "_rank_by_overlap" = some (some (.ref (He.ga K "_rank_by_overlap")))) ∧ (PySem.W.keepIn K (.ref (He.ga K "_rank_by_overlap")) = true)
abbrev Ex5 (K : PySem.W.Frag) : Prop := (PySem.W.nsIn K mainGlobals "_rank_by_keen" = some (some (.ref (He.ga K "_rank_by_keen")))) ∧ (PySem.W.keepIn K (.ref (He.ga K "_rank_by_keen")) = true) ∧ (PySem.W.nsIn K mainGlobals "_rank_by_behind" = some (some (.ref (He.ga K "_rank_by_behind")))) ∧ (PySem.W.keepIn K (.ref (He.ga K "_rank_by_behind")) = true) ∧ (PySem.W.nsIn K mainGlobals "_ranks_of" = some (some (.ref (He.ga K "_ranks_of")))) ∧ (PySem.W.keepIn K (.ref (He.ga K "_ranks_of")) = true) ∧ (PySem.W.nsIn K mainGlobals "paces_of" = some (some (.ref (He.ga K "paces_of")))) ∧ (PySem.W.keepIn K (.ref (He.ga K "paces_of")) = true) ∧ (PySem.W.nsIn K mainGlobals "order_of" = some (some (.ref (He.ga K "order_of")))) ∧ (PySem.W.keepIn K (.ref (He.ga K "order_of")) = true) ∧ (PySem.W.nsIn K mainGlobals "play" = some (some (.ref (He.ga K "play")))) ∧ (PySem.W.keepIn K (.ref (He.ga K "play")) = true)
abbrev Ex6 (K : PySem.W.Frag) : Prop := (PySem.W.nsIn K mainGlobals "is_rule" = some (some (.ref (He.ga K "is_rule")))) ∧ (PySem.W.keepIn K (.ref (He.ga K "is_rule")) = true) ∧ (PySem.W.nsIn K mainGlobals "check_rule" = some (some (.ref (He.ga K "check_rule")))) ∧ (PySem.W.keepIn K (.ref (He.ga K "check_rule")) = true) ∧ (PySem.W.nsIn K mainGlobals "_is_late" = some (some (.ref (He.ga K "_is_late")))) ∧ (PySem.W.keepIn K (.ref (He.ga K "_is_late")) = true) ∧ (PySem.W.nsIn K mainGlobals "check_lates" = some (some (.ref (He.ga K "check_lates")))) ∧ (PySem.W.keepIn K (.ref (He.ga K "check_lates")) = true) ∧ (PySem.W.nsIn K mainGlobals "_delays_of" = some (some (.ref (He.ga K "_delays_of")))) ∧ (PySem.W.keepIn K (.ref (He.ga K "_delays_of")) = true) ∧ (PySem.W.nsIn K mainGlobals "run" = some (some (.ref (He.ga K "run")))) ∧ (PySem.W.keepIn K (.ref (He.ga K "run")) = true)
abbrev Ex7 (K : PySem.W.Frag) : Prop := (PySem.W.nsIn K mainGlobals "worst" = some (some (.ref (He.ga K "worst")))) ∧ (PySem.W.keepIn K (.ref (He.ga K "worst")) = true) ∧ (PySem.W.nsIn K mainGlobals "Lot" = some (some (.ref (He.ga K "Lot")))) ∧ (PySem.W.findIn K (.ref (He.ga K "Lot")) "__init__" = some (some (.ref (He.ma K (He.ga K "Lot") "__init__")))) ∧ (PySem.W.keepIn K (.ref (He.ma K (He.ga K "Lot") "__init__")) = true) ∧ (PySem.W.isFn K (.ref (He.ma K (He.ga K "Lot") "__init__")) = true) ∧ (PySem.W.plainGet K (He.ga K "Lot") Str.empty = true) ∧ (PySem.W.hasDictIn K (He.ga K "Lot") = true) ∧ (PySem.W.plainOver K (He.ga K "Lot") = true) ∧ (PySem.W.findIn K (.ref (He.ga K "Lot")) "__setattr__" = some (some (.builtin "object.__setattr__"))) ∧ (PySem.W.makesIn K (He.ga K "Lot") = true) ∧ (PySem.W.keepIn K (.ref (He.ga K "Lot")) = true)
abbrev Ex8 (K : PySem.W.Frag) : Prop := (PySem.W.findIn K (.ref (He.ga K "Lot")) "__class__" = some (some (.builtin "object.__class__"))) ∧ (PySem.W.specialIn K (.builtin "object.__class__") "__get__" = some (some (.builtin "getset_descriptor.__get__"))) ∧ (PySem.W.takesIn K (.builtin "object.__class__") = some true) ∧ (PySem.W.mroIn K (He.ga K "Lot") (.type "object") = some true) ∧ (PySem.W.findIn K (.ref (He.ga K "Lot")) "_text" = some none) ∧ (PySem.W.findIn K (.ref (He.ga K "Lot")) "_hands" = some none) ∧ (PySem.W.findIn K (.ref (He.ga K "Lot")) "_names" = some none) ∧ (PySem.W.findIn K (.ref (He.ga K "Lot")) "_shares" = some none) ∧ (PySem.W.findIn K (.ref (He.ga K "Lot")) "_span" = some none) ∧ (PySem.W.findIn K (.ref (He.ga K "Lot")) "_total" = some none) ∧ (PySem.W.findIn K (.ref (He.ga K "Lot")) "shares" = some (some (.ref (He.ma K (He.ga K "Lot") "shares")))) ∧ (PySem.W.recIn K (He.ma K (He.ga K "Lot") "shares") "property" = some (.ref (getAd K (He.ma K (He.ga K "Lot") "shares")) :: (restAd K (He.ma K (He.ga K "Lot") "shares"))))
abbrev Ex9 (K : PySem.W.Frag) : Prop := (PySem.W.specialIn K (.ref (He.ma K (He.ga K "Lot") "shares")) "__get__" = some (some (.builtin "property.__get__"))) ∧ (PySem.W.takesIn K (.ref (He.ma K (He.ga K "Lot") "shares")) = some true) ∧ (PySem.W.keepIn K (.ref (getAd K (He.ma K (He.ga K "Lot") "shares"))) = true) ∧ (PySem.W.findIn K (.ref (He.ga K "Lot")) "hands" = some (some (.ref (He.ma K (He.ga K "Lot") "hands")))) ∧ (PySem.W.recIn K (He.ma K (He.ga K "Lot") "hands") "property" = some (.ref (getAd K (He.ma K (He.ga K "Lot") "hands")) :: (restAd K (He.ma K (He.ga K "Lot") "hands")))) ∧ (PySem.W.specialIn K (.ref (He.ma K (He.ga K "Lot") "hands")) "__get__" = some (some (.builtin "property.__get__"))) ∧ (PySem.W.takesIn K (.ref (He.ma K (He.ga K "Lot") "hands")) = some true) ∧ (PySem.W.keepIn K (.ref (getAd K (He.ma K (He.ga K "Lot") "hands"))) = true) ∧ (PySem.W.findIn K (.ref (He.ga K "Lot")) "span" = some (some (.ref (He.ma K (He.ga K "Lot") "span")))) ∧ (PySem.W.recIn K (He.ma K (He.ga K "Lot") "span") "property" = some (.ref (getAd K (He.ma K (He.ga K "Lot") "span")) :: (restAd K (He.ma K (He.ga K "Lot") "span")))) ∧ (PySem.W.specialIn K (.ref (He.ma K (He.ga K "Lot") "span")) "__get__" = some (some (.builtin "property.__get__"))) ∧ (PySem.W.takesIn K (.ref (He.ma K (He.ga K "Lot") "span")) = some true)
abbrev Ex10 (K : PySem.W.Frag) : Prop := (PySem.W.keepIn K (.ref (getAd K (He.ma K (He.ga K "Lot") "span"))) = true) ∧ (PySem.W.findIn K (.ref (He.ga K "Lot")) "names" = some (some (.ref (He.ma K (He.ga K "Lot") "names")))) ∧ (PySem.W.recIn K (He.ma K (He.ga K "Lot") "names") "property" = some (.ref (getAd K (He.ma K (He.ga K "Lot") "names")) :: (restAd K (He.ma K (He.ga K "Lot") "names")))) ∧ (PySem.W.specialIn K (.ref (He.ma K (He.ga K "Lot") "names")) "__get__" = some (some (.builtin "property.__get__"))) ∧ (PySem.W.takesIn K (.ref (He.ma K (He.ga K "Lot") "names")) = some true) ∧ (PySem.W.keepIn K (.ref (getAd K (He.ma K (He.ga K "Lot") "names"))) = true) ∧ (PySem.W.nsIn K mainGlobals "Pace" = some (some (.ref (He.ga K "Pace")))) ∧ (PySem.W.findIn K (.ref (He.ga K "Pace")) "__init__" = some (some (.ref (He.ma K (He.ga K "Pace") "__init__")))) ∧ (PySem.W.keepIn K (.ref (He.ma K (He.ga K "Pace") "__init__")) = true) ∧ (PySem.W.isFn K (.ref (He.ma K (He.ga K "Pace") "__init__")) = true) ∧ (PySem.W.plainGet K (He.ga K "Pace") Str.empty = true) ∧ (PySem.W.hasDictIn K (He.ga K "Pace") = true)
abbrev Ex11 (K : PySem.W.Frag) : Prop := (PySem.W.plainOver K (He.ga K "Pace") = true) ∧ (PySem.W.findIn K (.ref (He.ga K "Pace")) "__setattr__" = some (some (.builtin "object.__setattr__"))) ∧ (PySem.W.makesIn K (He.ga K "Pace") = true) ∧ (PySem.W.keepIn K (.ref (He.ga K "Pace")) = true) ∧ (PySem.W.findIn K (.ref (He.ga K "Pace")) "lengths" = some none) ∧ (PySem.W.findIn K (.ref (He.ga K "Pace")) "gaps" = some none) ∧ (PySem.W.findIn K (.ref (He.ga K "Pace")) "ranks" = some none) ∧ (PySem.W.findIn K (.ref (He.ga K "Pace")) "place_behind" = some (some (.ref (He.ma K (He.ga K "Pace") "place_behind")))) ∧ (PySem.W.keepIn K (.ref (He.ma K (He.ga K "Pace") "place_behind")) = true) ∧ (PySem.W.isFn K (.ref (He.ma K (He.ga K "Pace") "place_behind")) = true) ∧ (PySem.W.kitOne K (.type "dict") (.ref (He.ga K "Lot")) = some false) ∧ (PySem.W.kitOne K (.type "NoneType") (.ref (He.ga K "Lot")) = some false)
abbrev Ex12 (K : PySem.W.Frag) : Prop := (PySem.W.kitOne K (.type "bool") (.ref (He.ga K "Lot")) = some false) ∧ (PySem.W.kitOne K (.type "int") (.ref (He.ga K "Lot")) = some false) ∧ (PySem.W.kitOne K (.type "str") (.ref (He.ga K "Lot")) = some false) ∧ (PySem.W.kitOne K (.type "list") (.ref (He.ga K "Lot")) = some false) ∧ (PySem.W.kitOne K (.type "tuple") (.ref (He.ga K "Lot")) = some false) ∧ (PySem.W.nsIn K mainGlobals "RANKINGS" = some (some (.ref (He.ga K "RANKINGS")))) ∧ (PySem.W.nsIn K mainGlobals "RULES" = some (some (.ref (He.ga K "RULES")))) ∧ (PySem.W.nsIn K (He.ga K "RANKINGS") "nearest" = some (some (.ref (He.ga K "_rank_by_nearest")))) ∧ (PySem.W.nsIn K (He.ga K "RANKINGS") "overlap" = some (some (.ref (He.ga K "_rank_by_overlap")))) ∧ (PySem.W.nsIn K (He.ga K "RANKINGS") "keen" = some (some (.ref (He.ga K "_rank_by_keen")))) ∧ (PySem.W.nsIn K (He.ga K "RANKINGS") "behind" = some (some (.ref (He.ga K "_rank_by_behind")))) ∧ (strsIn K (He.ga K "RULES") = some ((["nearest", "overlap", "keen", "behind"] : List Str).map some))
abbrev Ex13 (K : PySem.W.Frag) : Prop := ((He.ga K "_rank_by_nearest") ≠ (He.ga K "_rank_by_overlap")) ∧ ((He.ga K "_rank_by_nearest") ≠ (He.ga K "_rank_by_keen")) ∧ ((He.ga K "_rank_by_nearest") ≠ (He.ga K "_rank_by_behind")) ∧ ((He.ga K "_rank_by_overlap") ≠ (He.ga K "_rank_by_keen")) ∧ ((He.ga K "_rank_by_overlap") ≠ (He.ga K "_rank_by_behind")) ∧ ((He.ga K "_rank_by_keen") ≠ (He.ga K "_rank_by_behind")) ∧ (PySem.W.nsIn K mainGlobals "NotALot" = some (some (.ref (He.ga K "NotALot")))) ∧ (PySem.W.nsIn K mainGlobals "UnknownName" = some (some (.ref (He.ga K "UnknownName")))) ∧ (PySem.W.nsIn K mainGlobals "InvalidNumber" = some (some (.ref (He.ga K "InvalidNumber")))) ∧ (PySem.W.nsIn K mainGlobals "InvalidRule" = some (some (.ref (He.ga K "InvalidRule")))) ∧ (PySem.W.nsIn K mainGlobals "InvalidStanding" = some (some (.ref (He.ga K "InvalidStanding")))) ∧ (PySem.W.nsIn K mainGlobals "InvalidTable" = some (some (.ref (He.ga K "InvalidTable"))))
abbrev Ex14 (K : PySem.W.Frag) : Prop := (PySem.W.nsIn K mainGlobals "InvalidLates" = some (some (.ref (He.ga K "InvalidLates")))) ∧ (PySem.W.nsIn K mainGlobals "InvalidCounts" = some (some (.ref (He.ga K "InvalidCounts")))) ∧ (PySem.W.nsIn K mainGlobals "TooMany" = some (some (.ref (He.ga K "TooMany")))) ∧ (PySem.W.nsIn K mainGlobals "WrongValue" = some (some (.ref (He.ga K "WrongValue")))) ∧ (PySem.W.nsIn K mainGlobals "WrongName" = some (some (.ref (He.ga K "WrongName")))) ∧ (PySem.W.nsIn K mainGlobals "NoAnswer" = some (some (.ref (He.ga K "NoAnswer")))) ∧ (PySem.W.specialIn K (.builtin "object.__class__") "__get__" = some (some (.builtin "getset_descriptor.__get__"))) ∧ (PySem.W.takesIn K (.builtin "object.__class__") = some true) ∧ (PySem.W.excInitIn K (He.ga K "NotALot") [.type "ValueError", .type "Exception", .type "BaseException", .type "object"] "ValueError.__new__" = true) ∧ (PySem.W.excOver K (He.ga K "NotALot") [.type "ValueError", .type "Exception", .type "BaseException", .type "object"] = true) ∧ (PySem.W.findIn K (.ref (He.ga K "NotALot")) "__setattr__" = some (some (.builtin "object.__setattr__"))) ∧ (PySem.W.findIn K (.ref (He.ga K "NotALot")) "__getattribute__" = some (some (.builtin "BaseException.__getattribute__")))
abbrev Ex15 (K : PySem.W.Frag) : Prop := (PySem.W.findIn K (.ref (He.ga K "NotALot")) "__getattr__" = some none) ∧ (PySem.W.findIn K (.ref (He.ga K "NotALot")) "__class__" = some (some (.builtin "object.__class__"))) ∧ (PySem.W.findIn K (.ref (He.ga K "NotALot")) "given" = some none) ∧ (PySem.W.subIn K (.ref (He.ga K "NotALot")) (.type "BaseException") = some true) ∧ (PySem.W.typeIn K (.ref (He.ga K "NotALot")) = some (.type "type")) ∧ (PySem.W.keepIn K (.ref (He.ga K "NotALot")) = true) ∧ (PySem.W.isClsIn K (He.ga K "NotALot") = true) ∧ (PySem.W.mroIn K (He.ga K "NotALot") (.type "object") = some true) ∧ (PySem.W.hasDictIn K (He.ga K "NotALot") = true) ∧ (PySem.W.findIn K (.ref (He.ga K "NotALot")) "__init__" = some (some (.ref (He.ma K (He.ga K "NotALot") "__init__")))) ∧ (PySem.W.keepIn K (.ref (He.ma K (He.ga K "NotALot") "__init__")) = true) ∧ (PySem.W.typeIn K (.ref (He.ma K (He.ga K "NotALot") "__init__")) = some (.type "function"))
abbrev Ex16 (K : PySem.W.Frag) : Prop := (PySem.W.kitOne K (.ref (He.ga K "NotALot")) (.ref (He.ga K "NotALot")) = some true) ∧ (PySem.W.kitOne K (.ref (He.ga K "NotALot")) (.ref (He.ga K "UnknownName")) = some false) ∧ (PySem.W.kitOne K (.ref (He.ga K "NotALot")) (.ref (He.ga K "InvalidNumber")) = some false) ∧ (PySem.W.kitOne K (.ref (He.ga K "NotALot")) (.ref (He.ga K "InvalidRule")) = some false) ∧ (PySem.W.kitOne K (.ref (He.ga K "NotALot")) (.ref (He.ga K "InvalidStanding")) = some false) ∧ (PySem.W.kitOne K (.ref (He.ga K "NotALot")) (.ref (He.ga K "InvalidTable")) = some false) ∧ (PySem.W.kitOne K (.ref (He.ga K "NotALot")) (.ref (He.ga K "InvalidLates")) = some false) ∧ (PySem.W.kitOne K (.ref (He.ga K "NotALot")) (.ref (He.ga K "InvalidCounts")) = some false) ∧ (PySem.W.kitOne K (.ref (He.ga K "NotALot")) (.ref (He.ga K "TooMany")) = some false) ∧ (PySem.W.exmAny K (.ref (He.ga K "NotALot")) [.ref (He.ga K "WrongValue"), .ref (He.ga K "WrongName"), .ref (He.ga K "NoAnswer")] = some true) ∧ (PySem.W.excInitIn K (He.ga K "InvalidNumber") [.type "ValueError", .type "Exception", .type "BaseException", .type "object"] "ValueError.__new__" = true) ∧ (PySem.W.excOver K (He.ga K "InvalidNumber") [.type "ValueError", .type "Exception", .type "BaseException", .type "object"] = true)
abbrev Ex17 (K : PySem.W.Frag) : Prop := (PySem.W.findIn K (.ref (He.ga K "InvalidNumber")) "__setattr__" = some (some (.builtin "object.__setattr__"))) ∧ (PySem.W.findIn K (.ref (He.ga K "InvalidNumber")) "__getattribute__" = some (some (.builtin "BaseException.__getattribute__"))) ∧ (PySem.W.findIn K (.ref (He.ga K "InvalidNumber")) "__getattr__" = some none) ∧ (PySem.W.findIn K (.ref (He.ga K "InvalidNumber")) "__class__" = some (some (.builtin "object.__class__"))) ∧ (PySem.W.findIn K (.ref (He.ga K "InvalidNumber")) "given" = some none) ∧ (PySem.W.subIn K (.ref (He.ga K "InvalidNumber")) (.type "BaseException") = some true) ∧ (PySem.W.typeIn K (.ref (He.ga K "InvalidNumber")) = some (.type "type")) ∧ (PySem.W.keepIn K (.ref (He.ga K "InvalidNumber")) = true) ∧ (PySem.W.isClsIn K (He.ga K "InvalidNumber") = true) ∧ (PySem.W.mroIn K (He.ga K "InvalidNumber") (.type "object") = some true) ∧ (PySem.W.hasDictIn K (He.ga K "InvalidNumber") = true) ∧ (PySem.W.findIn K (.ref (He.ga K "InvalidNumber")) "__init__" = some (some (.ref (He.ma K (He.ga K "InvalidNumber") "__init__"))))
abbrev Ex18 (K : PySem.W.Frag) : Prop := (PySem.W.keepIn K (.ref (He.ma K (He.ga K "InvalidNumber") "__init__")) = true) ∧ (PySem.W.typeIn K (.ref (He.ma K (He.ga K "InvalidNumber") "__init__")) = some (.type "function")) ∧ (PySem.W.kitOne K (.ref (He.ga K "InvalidNumber")) (.ref (He.ga K "NotALot")) = some false) ∧ (PySem.W.kitOne K (.ref (He.ga K "InvalidNumber")) (.ref (He.ga K "UnknownName")) = some false) ∧ (PySem.W.kitOne K (.ref (He.ga K "InvalidNumber")) (.ref (He.ga K "InvalidNumber")) = some true) ∧ (PySem.W.kitOne K (.ref (He.ga K "InvalidNumber")) (.ref (He.ga K "InvalidRule")) = some false) ∧ (PySem.W.kitOne K (.ref (He.ga K "InvalidNumber")) (.ref (He.ga K "InvalidStanding")) = some false) ∧ (PySem.W.kitOne K (.ref (He.ga K "InvalidNumber")) (.ref (He.ga K "InvalidTable")) = some false) ∧ (PySem.W.kitOne K (.ref (He.ga K "InvalidNumber")) (.ref (He.ga K "InvalidLates")) = some false) ∧ (PySem.W.kitOne K (.ref (He.ga K "InvalidNumber")) (.ref (He.ga K "InvalidCounts")) = some false) ∧ (PySem.W.kitOne K (.ref (He.ga K "InvalidNumber")) (.ref (He.ga K "TooMany")) = some false) ∧ (PySem.W.exmAny K (.ref (He.ga K "InvalidNumber")) [.ref (He.ga K "WrongValue"), .ref (He.ga K "WrongName"), .ref (He.ga K "NoAnswer")] = some true)
abbrev Ex19 (K : PySem.W.Frag) : Prop := (PySem.W.excInitIn K (He.ga K "InvalidRule") [.type "ValueError", .type "Exception", .type "BaseException", .type "object"] "ValueError.__new__" = true) ∧ (PySem.W.excOver K (He.ga K "InvalidRule") [.type "ValueError", .type "Exception", .type "BaseException", .type "object"] = true) ∧ (PySem.W.findIn K (.ref (He.ga K "InvalidRule")) "__setattr__" = some (some (.builtin "object.__setattr__"))) ∧ (PySem.W.findIn K (.ref (He.ga K "InvalidRule")) "__getattribute__" = some (some (.builtin "BaseException.__getattribute__"))) ∧ (PySem.W.findIn K (.ref (He.ga K "InvalidRule")) "__getattr__" = some none) ∧ (PySem.W.findIn K (.ref (He.ga K "InvalidRule")) "__class__" = some (some (.builtin "object.__class__"))) ∧ (PySem.W.findIn K (.ref (He.ga K "InvalidRule")) "given" = some none) ∧ (PySem.W.subIn K (.ref (He.ga K "InvalidRule")) (.type "BaseException") = some true) ∧ (PySem.W.typeIn K (.ref (He.ga K "InvalidRule")) = some (.type "type")) ∧ (PySem.W.keepIn K (.ref (He.ga K "InvalidRule")) = true) ∧ (PySem.W.isClsIn K (He.ga K "InvalidRule") = true) ∧ (PySem.W.mroIn K (He.ga K "InvalidRule") (.type "object") = some true)
abbrev Ex20 (K : PySem.W.Frag) : Prop := (PySem.W.hasDictIn K (He.ga K "InvalidRule") = true) ∧ (PySem.W.findIn K (.ref (He.ga K "InvalidRule")) "__init__" = some (some (.ref (He.ma K (He.ga K "InvalidRule") "__init__")))) ∧ (PySem.W.keepIn K (.ref (He.ma K (He.ga K "InvalidRule") "__init__")) = true) ∧ (PySem.W.typeIn K (.ref (He.ma K (He.ga K "InvalidRule") "__init__")) = some (.type "function")) ∧ (PySem.W.kitOne K (.ref (He.ga K "InvalidRule")) (.ref (He.ga K "NotALot")) = some false) ∧ (PySem.W.kitOne K (.ref (He.ga K "InvalidRule")) (.ref (He.ga K "UnknownName")) = some false) ∧ (PySem.W.kitOne K (.ref (He.ga K "InvalidRule")) (.ref (He.ga K "InvalidNumber")) = some false) ∧ (PySem.W.kitOne K (.ref (He.ga K "InvalidRule")) (.ref (He.ga K "InvalidRule")) = some true) ∧ (PySem.W.kitOne K (.ref (He.ga K "InvalidRule")) (.ref (He.ga K "InvalidStanding")) = some false) ∧ (PySem.W.kitOne K (.ref (He.ga K "InvalidRule")) (.ref (He.ga K "InvalidTable")) = some false) ∧ (PySem.W.kitOne K (.ref (He.ga K "InvalidRule")) (.ref (He.ga K "InvalidLates")) = some false) ∧ (PySem.W.kitOne K (.ref (He.ga K "InvalidRule")) (.ref (He.ga K "InvalidCounts")) = some false)
abbrev Ex21 (K : PySem.W.Frag) : Prop := (PySem.W.kitOne K (.ref (He.ga K "InvalidRule")) (.ref (He.ga K "TooMany")) = some false) ∧ (PySem.W.exmAny K (.ref (He.ga K "InvalidRule")) [.ref (He.ga K "WrongValue"), .ref (He.ga K "WrongName"), .ref (He.ga K "NoAnswer")] = some true) ∧ (PySem.W.excInitIn K (He.ga K "InvalidLates") [.type "ValueError", .type "Exception", .type "BaseException", .type "object"] "ValueError.__new__" = true) ∧ (PySem.W.excOver K (He.ga K "InvalidLates") [.type "ValueError", .type "Exception", .type "BaseException", .type "object"] = true) ∧ (PySem.W.findIn K (.ref (He.ga K "InvalidLates")) "__setattr__" = some (some (.builtin "object.__setattr__"))) ∧ (PySem.W.findIn K (.ref (He.ga K "InvalidLates")) "__getattribute__" = some (some (.builtin "BaseException.__getattribute__"))) ∧ (PySem.W.findIn K (.ref (He.ga K "InvalidLates")) "__getattr__" = some none) ∧ (PySem.W.findIn K (.ref (He.ga K "InvalidLates")) "__class__" = some (some (.builtin "object.__class__"))) ∧ (PySem.W.findIn K (.ref (He.ga K "InvalidLates")) "index" = some none) ∧ (PySem.W.subIn K (.ref (He.ga K "InvalidLates")) (.type "BaseException") = some true) ∧ (PySem.W.typeIn K (.ref (He.ga K "InvalidLates")) = some (.type "type")) ∧ (PySem.W.keepIn K (.ref (He.ga K "InvalidLates")) = true)
abbrev Ex22 (K : PySem.W.Frag) : Prop := (PySem.W.isClsIn K (He.ga K "InvalidLates") = true) ∧ (PySem.W.mroIn K (He.ga K "InvalidLates") (.type "object") = some true) ∧ (PySem.W.hasDictIn K (He.ga K "InvalidLates") = true) ∧ (PySem.W.findIn K (.ref (He.ga K "InvalidLates")) "__init__" = some (some (.ref (He.ma K (He.ga K "InvalidLates") "__init__")))) ∧ (PySem.W.keepIn K (.ref (He.ma K (He.ga K "InvalidLates") "__init__")) = true) ∧ (PySem.W.typeIn K (.ref (He.ma K (He.ga K "InvalidLates") "__init__")) = some (.type "function")) ∧ (PySem.W.kitOne K (.ref (He.ga K "InvalidLates")) (.ref (He.ga K "NotALot")) = some false) ∧ (PySem.W.kitOne K (.ref (He.ga K "InvalidLates")) (.ref (He.ga K "UnknownName")) = some false) ∧ (PySem.W.kitOne K (.ref (He.ga K "InvalidLates")) (.ref (He.ga K "InvalidNumber")) = some false) ∧ (PySem.W.kitOne K (.ref (He.ga K "InvalidLates")) (.ref (He.ga K "InvalidRule")) = some false) ∧ (PySem.W.kitOne K (.ref (He.ga K "InvalidLates")) (.ref (He.ga K "InvalidStanding")) = some false) ∧ (PySem.W.kitOne K (.ref (He.ga K "InvalidLates")) (.ref (He.ga K "InvalidTable")) = some false)
abbrev Ex23 (K : PySem.W.Frag) : Prop := (PySem.W.kitOne K (.ref (He.ga K "InvalidLates")) (.ref (He.ga K "InvalidLates")) = some true) ∧ (PySem.W.kitOne K (.ref (He.ga K "InvalidLates")) (.ref (He.ga K "InvalidCounts")) = some false) ∧ (PySem.W.kitOne K (.ref (He.ga K "InvalidLates")) (.ref (He.ga K "TooMany")) = some false) ∧ (PySem.W.exmAny K (.ref (He.ga K "InvalidLates")) [.ref (He.ga K "WrongValue"), .ref (He.ga K "WrongName"), .ref (He.ga K "NoAnswer")] = some true) ∧ (PySem.W.excInitIn K (He.ga K "TooMany") [.type "ArithmeticError", .type "Exception", .type "BaseException", .type "object"] "ArithmeticError.__new__" = true) ∧ (PySem.W.excOver K (He.ga K "TooMany") [.type "ArithmeticError", .type "Exception", .type "BaseException", .type "object"] = true) ∧ (PySem.W.findIn K (.ref (He.ga K "TooMany")) "__setattr__" = some (some (.builtin "object.__setattr__"))) ∧ (PySem.W.findIn K (.ref (He.ga K "TooMany")) "__getattribute__" = some (some (.builtin "BaseException.__getattribute__"))) ∧ (PySem.W.findIn K (.ref (He.ga K "TooMany")) "__getattr__" = some none) ∧ (PySem.W.findIn K (.ref (He.ga K "TooMany")) "__class__" = some (some (.builtin "object.__class__"))) ∧ (PySem.W.findIn K (.ref (He.ga K "TooMany")) "limit" = some none) ∧ (PySem.W.subIn K (.ref (He.ga K "TooMany")) (.type "BaseException") = some true)
abbrev Ex24 (K : PySem.W.Frag) : Prop := (PySem.W.typeIn K (.ref (He.ga K "TooMany")) = some (.type "type")) ∧ (PySem.W.keepIn K (.ref (He.ga K "TooMany")) = true) ∧ (PySem.W.isClsIn K (He.ga K "TooMany") = true) ∧ (PySem.W.mroIn K (He.ga K "TooMany") (.type "object") = some true) ∧ (PySem.W.hasDictIn K (He.ga K "TooMany") = true) ∧ (PySem.W.findIn K (.ref (He.ga K "TooMany")) "__init__" = some (some (.ref (He.ma K (He.ga K "TooMany") "__init__")))) ∧ (PySem.W.keepIn K (.ref (He.ma K (He.ga K "TooMany") "__init__")) = true) ∧ (PySem.W.typeIn K (.ref (He.ma K (He.ga K "TooMany") "__init__")) = some (.type "function")) ∧ (PySem.W.kitOne K (.ref (He.ga K "TooMany")) (.ref (He.ga K "NotALot")) = some false) ∧ (PySem.W.kitOne K (.ref (He.ga K "TooMany")) (.ref (He.ga K "UnknownName")) = some false) ∧ (PySem.W.kitOne K (.ref (He.ga K "TooMany")) (.ref (He.ga K "InvalidNumber")) = some false) ∧ (PySem.W.kitOne K (.ref (He.ga K "TooMany")) (.ref (He.ga K "InvalidRule")) = some false)
abbrev Ex25 (K : PySem.W.Frag) : Prop := (PySem.W.kitOne K (.ref (He.ga K "TooMany")) (.ref (He.ga K "InvalidStanding")) = some false) ∧ (PySem.W.kitOne K (.ref (He.ga K "TooMany")) (.ref (He.ga K "InvalidTable")) = some false) ∧ (PySem.W.kitOne K (.ref (He.ga K "TooMany")) (.ref (He.ga K "InvalidLates")) = some false) ∧ (PySem.W.kitOne K (.ref (He.ga K "TooMany")) (.ref (He.ga K "InvalidCounts")) = some false) ∧ (PySem.W.kitOne K (.ref (He.ga K "TooMany")) (.ref (He.ga K "TooMany")) = some true) ∧ (PySem.W.exmAny K (.ref (He.ga K "TooMany")) [.ref (He.ga K "WrongValue"), .ref (He.ga K "WrongName"), .ref (He.ga K "NoAnswer")] = some true) ∧ (PySem.W.nsIn K mainGlobals "MOST_WORKS" = some (some (.int 6 (tokAd K "MOST_WORKS")))) ∧ (PySem.W.nsIn K mainGlobals "MOST_HANDS" = some (some (.int 6 (tokAd K "MOST_HANDS")))) ∧ (PySem.W.nsIn K mainGlobals "MOST_PERIOD" = some (some (.int 16 (tokAd K "MOST_PERIOD")))) ∧ (PySem.W.nsIn K mainGlobals "LONGEST_NAME" = some (some (.int 8 (tokAd K "LONGEST_NAME")))) ∧ (PySem.W.nsIn K mainGlobals "LETTERS" = some (some (.str (Str.ofString "abcdefghijklmnopqrstuvwxyz") (tokAd K "LETTERS")))) ∧ (PySem.W.nsIn K mainGlobals "MOST_LATES" = some (some (.int 200 (tokAd K "MOST_LATES"))))
abbrev Ex26 (K : PySem.W.Frag) : Prop := (PySem.W.nsIn K mainGlobals "MOST_RUN" = some (some (.int 2000 (tokAd K "MOST_RUN")))) ∧ (PySem.W.nsIn K mainGlobals "MOST_LATE_TURN" = some (some (.int 1000000 (tokAd K "MOST_LATE_TURN")))) ∧ (PySem.W.nsIn K mainGlobals "MOST_LATE_BY" = some (some (.int 1000000 (tokAd K "MOST_LATE_BY")))) ∧ (PySem.W.nsIn K mainGlobals "MOST_SEARCHED_WORKS" = some (some (.int 4 (tokAd K "MOST_SEARCHED_WORKS")))) ∧ (PySem.W.nsIn K mainGlobals "MOST_SEARCHED_PERIOD" = some (some (.int 6 (tokAd K "MOST_SEARCHED_PERIOD")))) ∧ (PySem.W.nsIn K mainGlobals "len" = some none) ∧ (PySem.W.nsIn K mainGlobals "range" = some none) ∧ (PySem.W.nsIn K mainGlobals "abs" = some none) ∧ (PySem.W.nsIn K mainGlobals "divmod" = some none) ∧ (PySem.W.nsIn K mainGlobals "int" = some none) ∧ (PySem.W.nsIn K mainGlobals "str" = some none) ∧ (PySem.W.nsIn K mainGlobals "bool" = some none)
abbrev Ex27 (K : PySem.W.Frag) : Prop := (PySem.W.nsIn K mainGlobals "repr" = some none) ∧ (PySem.W.nsIn K mainGlobals "isinstance" = some none) ∧ (PySem.W.nsIn K mainGlobals "tuple" = some none) ∧ (PySem.W.nsIn K mainGlobals "list" = some none) ∧ (PySem.W.nsIn K mainGlobals "dict" = some none) ∧ (PySem.W.nsIn K mainGlobals "zip" = some none) ∧ (PySem.W.nsIn K mainGlobals "sum" = some none) ∧ (PySem.W.nsIn K mainGlobals "all" = some none) ∧ (PySem.W.nsIn K mainGlobals "max" = some none) ∧ (PySem.W.nsIn K mainGlobals "min" = some none) ∧ (PySem.W.nsIn K mainGlobals "sorted" = some none) ∧ (PySem.W.nsIn K mainGlobals "set" = some none)
abbrev Ex28 (K : PySem.W.Frag) : Prop := (PySem.W.nsIn K mainGlobals "enumerate" = some none) ∧ (PySem.W.nsIn K mainGlobals "gcd" = some (some (.builtin "math.gcd"))) ∧ (PySem.W.nsIn K mainGlobals "lcm" = some (some (.builtin "math.lcm")))
def exF (K : PySem.W.Frag) : Bool := decide (Ex0 K) && (decide (Ex1 K) && (decide (Ex2 K) && (decide (Ex3 K) && (decide (Ex4 K) && (decide (Ex5 K) && (decide (Ex6 K) && (decide (Ex7 K) && (decide (Ex8 K) && (decide (Ex9 K) && (decide (Ex10 K) && (decide (Ex11 K) && (decide (Ex12 K) && (decide (Ex13 K) && (decide (Ex14 K) && (decide (Ex15 K) && (decide (Ex16 K) && (decide (Ex17 K) && (decide (Ex18 K) && (decide (Ex19 K) && (decide (Ex20 K) && (decide (Ex21 K) && (decide (Ex22 K) && (decide (Ex23 K) && (decide (Ex24 K) && (decide (Ex25 K) && (decide (Ex26 K) && (decide (Ex27 K) && (decide (Ex28 K)))))))))))))))))))))))))))))
def tfF : List (PySem.W.Frag → Addr × Addr) := [fun K => (codeAd K (He.ga K "_law_right"), tabAd K (codeAd K (He.ga K "_law_right")))]
def tsF : List He.Tab := [(fun K => He.ga K "RANKINGS", ["nearest", "overlap", "keen", "behind"])]
def nmF0 : List Str := ["_wall", "WrongValue", "InvalidText", "InvalidNumber", "InvalidRule", "InvalidStanding", "InvalidTable", "NotALot", "InvalidLates", "InvalidCounts", "WrongName", "UnknownName", "NoAnswer", "TooMany", "MOST_WORKS", "MOST_HANDS", "MOST_PERIOD", "MOST_LATES", "MOST_RUN", "LETTERS"]
def nmF1 : List Str := ["LONGEST_NAME", "is_number", "is_number_from", "is_name", "is_share", "check_number", "Lot", "check_lot", "_read_hands", "_read_works", "_read_work", "_read_number", "_span_of", "_total_of", "begin_of", "border_of", "overlaps_of", "group_border_of", "_quotient_up", "_rank_by_nearest"]
def nmF2 : List Str := ["_rank_by_overlap", "_rank_by_keen", "_rank_by_behind", "RANKINGS", "Pace", "paces_of", "order_of", "_ranks_of", "all_picks", "shortest_miss", "_arrivals", "_all_behind", "_path_to", "_lates_on", "play", "RULES", "is_rule", "check_rule", "MOST_SEARCHED_WORKS", "MOST_SEARCHED_PERIOD"]
def nmF3 : List Str := ["MOST_LATE_TURN", "MOST_LATE_BY", "run", "worst", "check_lates", "_is_late", "_delays_of", "_law_cell", "_law_jar", "_law_dig", "_law_take", "_law_rules", "_law_sort", "_law_caught", "_law_odd", "_law_wrong", "_law_right"]
def nmF : List Str := nmF0 ++ nmF1 ++ nmF2 ++ nmF3
abbrev rwF : PySem.W.OpenRow := PySem.W.OpenLaw.row PySem.Challenge.rw_tickshares_k44_lates_refused
abbrev vwF : Program := PySem.W.view rwF.prog [0, 89]
def asF0 : List Addr := [3, 6, 4, 49, 66, 86, 105, 124, 143, 162, 181, 200, 219, 238, 258, 277, 297, 306, 313, 318, 325, 332, 439, 450, 457, 464, 469, 476, 483, 488, 495, 502, 509, 516, 523, 530, 537, 544, 551, 552]
def asF1 : List Addr := [574, 583, 588, 593, 598, 603, 608, 615, 622, 627, 632, 633, 640, 647, 654, 659, 666, 673, 678, 685, 692, 699, 706, 713, 720, 727, 734, 739, 744, 749, 0, 48, 65, 85, 104, 123, 142, 161, 180, 199]
def asF2 : List Addr := [218, 237, 257, 276, 296, 305, 312, 317, 324, 331, 438, 449, 456, 463, 468, 475, 482, 487, 494, 501, 508, 515, 522, 529, 536, 543, 550, 573, 582, 587, 592, 597, 602, 607, 614, 621, 626, 631, 639, 646]
def asF3 : List Addr := [653, 658, 665, 672, 677, 684, 691, 698, 705, 712, 719, 726, 733, 738, 743, 748, 43, 44, 45, 46, 47, 63, 64, 67, 83, 84, 102, 103, 121, 122, 140, 141, 159, 160, 178, 179, 197, 198, 216, 217]
def asF4 : List Addr := [235, 236, 239, 255, 256, 274, 275, 278, 294, 295, 300, 301, 302, 303, 304, 307, 308, 309, 310, 311, 314, 315, 316, 319, 320, 321, 322, 323, 326, 327, 328, 329, 330, 346, 354, 362, 370, 378, 386, 394]
def asF5 : List Addr := [401, 408, 415, 422, 429, 436, 437, 440, 441, 444, 445, 446, 447, 448, 451, 452, 453, 454, 455, 458, 459, 460, 461, 462, 465, 466, 467, 470, 471, 472, 473, 474, 477, 478, 479, 480, 481, 484, 485, 486]
def asF6 : List Addr := [489, 490, 491, 492, 493, 496, 497, 498, 499, 500, 503, 504, 505, 506, 507, 510, 511, 512, 513, 514, 517, 518, 519, 520, 521, 524, 525, 526, 527, 528, 531, 532, 533, 534, 535, 538, 539, 540, 541, 542]
def asF7 : List Addr := [545, 546, 547, 548, 549, 564, 571, 572, 575, 576, 579, 580, 581, 584, 585, 586, 589, 590, 591, 594, 595, 596, 599, 600, 601, 604, 605, 606, 609, 610, 611, 612, 613, 616, 617, 618, 619, 620, 623, 624]
def asF8 : List Addr := [625, 628, 629, 630, 634, 635, 636, 637, 638, 641, 642, 643, 644, 645, 648, 649, 650, 651, 652, 655, 656, 657, 660, 661, 662, 663, 664, 667, 668, 669, 670, 671, 674, 675, 676, 679, 680, 681, 682, 683]
def asF9 : List Addr := [686, 687, 688, 689, 690, 693, 694, 695, 696, 697, 700, 701, 702, 703, 704, 707, 708, 709, 710, 711, 714, 715, 716, 717, 718, 721, 722, 723, 724, 725, 728, 729, 730, 731, 732, 735, 736, 737, 740, 741]
def asF10 : List Addr := [742, 745, 746, 747, 62, 82, 101, 120, 139, 158, 177, 196, 215, 234, 254, 273, 293, 345, 353, 361, 369, 377, 385, 393, 400, 407, 414, 421, 428, 435, 563, 570, 57, 58, 59, 60, 61, 77, 78, 79]
def asF11 : List Addr := [80, 81, 96, 97, 98, 99, 100, 115, 116, 117, 118, 119, 134, 135, 136, 137, 138, 153, 154, 155, 156, 157, 172, 173, 174, 175, 176, 191, 192, 193, 194, 195, 210, 211, 212, 213, 214, 229, 230, 231]
def asF12 : List Addr := [232, 233, 249, 250, 251, 252, 253, 268, 269, 270, 271, 272, 288, 289, 290, 291, 292, 340, 341, 342, 343, 344, 352, 360, 368, 376, 384, 392, 395, 396, 397, 398, 399, 402, 403, 404, 405, 406, 409, 410]
def asF13 : List Addr := [411, 412, 413, 416, 417, 418, 419, 420, 423, 424, 425, 426, 427, 430, 431, 432, 433, 434, 560, 561, 562, 565, 566, 567, 568, 569, 347, 348, 349, 350, 351, 355, 356, 357, 358, 359, 363, 364, 365, 366]
def asF14 : List Addr := [367, 371, 372, 373, 374, 375, 379, 380, 381, 382, 383, 387, 388, 389, 390, 391]
def asF : List Addr := asF0 ++ asF1 ++ asF2 ++ asF3 ++ asF4 ++ asF5 ++ asF6 ++ asF7 ++ asF8 ++ asF9 ++ asF10 ++ asF11 ++ asF12 ++ asF13 ++ asF14
--RUN
set_option maxHeartbeats 0 in
theorem runA_false (w : World) : (topF rwF 20000 (w.withFollow "special-get-raises" false)).map (fun x => (HandSHeadRun.looksF rwF.prog x.1.heap x.2.abs, HandSHeadRun.seenQ vwF nmF (importedModules rwF.prog.main.body) (fun s => PySem.W.xlAt vwF [] s && PySem.W.recOk rwF.toRowW.records s) x.2.abs)) = some (true, PySem.W.openGood vwF nmF) := by
  kernel_rfl
set_option maxHeartbeats 0 in
theorem runB_false (w : World) : (topF rwF 20000 (w.withFollow "special-get-raises" false)).map (fun x => viewW asF fnF tfF exF tsF (HandSHeadRun.getT x.2)) = some (dueW fnF tsF (w.withFollow "special-get-raises" false)) := by
  kernel_rfl
set_option maxHeartbeats 0 in
theorem run_false (w : World) : HandSHeadRun.RunEqI rwF vwF (hookW asF fnF tfF exF tsF) (fun s => viewW asF fnF tfF exF tsF (HandSHeadRun.getT s)) 20000 nmF (w.withFollow "special-get-raises" false) := run_two (runA_false w) (runB_false w)
set_option maxHeartbeats 0 in
theorem runA_true (w : World) : (topF rwF 20000 (w.withFollow "special-get-raises" true)).map (fun x => (HandSHeadRun.looksF rwF.prog x.1.heap x.2.abs, HandSHeadRun.seenQ vwF nmF (importedModules rwF.prog.main.body) (fun s => PySem.W.xlAt vwF [] s && PySem.W.recOk rwF.toRowW.records s) x.2.abs)) = some (true, PySem.W.openGood vwF nmF) := by
  kernel_rfl
set_option maxHeartbeats 0 in
theorem runB_true (w : World) : (topF rwF 20000 (w.withFollow "special-get-raises" true)).map (fun x => viewW asF fnF tfF exF tsF (HandSHeadRun.getT x.2)) = some (dueW fnF tsF (w.withFollow "special-get-raises" true)) := by
  kernel_rfl
set_option maxHeartbeats 0 in
theorem run_true (w : World) : HandSHeadRun.RunEqI rwF vwF (hookW asF fnF tfF exF tsF) (fun s => viewW asF fnF tfF exF tsF (HandSHeadRun.getT s)) 20000 nmF (w.withFollow "special-get-raises" true) := run_two (runA_true w) (runB_true w)
set_option maxHeartbeats 0 in
theorem runF (w : World) : HandSHeadRun.RunEqI rwF vwF (hookW asF fnF tfF exF tsF) (fun s => viewW asF fnF tfF exF tsF (HandSHeadRun.getT s)) 20000 nmF w := PySem.W.byRow2 "special-get-raises" (P := fun w => HandSHeadRun.RunEqI rwF vwF (hookW asF fnF tfF exF tsF) (fun s => viewW asF fnF tfF exF tsF (HandSHeadRun.getT s)) 20000 nmF w) run_false run_true w
end Ts
namespace Ts
open PySem PySem.Spec PyProof.Rows L2
section
variable {P : Program} {w : World} {K : PySem.W.Frag} {mg : Str → Option Value} {base : Heap}
theorem has_is_number_from (D : DefAt K mg "is_number_from" s_is_number_from) (B : Blt0 mg) : Has P w K mg base 1 "is_number_from" ["value", "low"] spIsNumberFrom := by
  refine D.has (fun _ _ _ _ _ _ us hl => match us, hl with | [_, _], _ => rfl) fun f fd F => F.ok sc_is_number_from (fun vs H Q E h => ?_) (fun cdv A outer s H vs Q E hr h => ?_)
  · obtain ⟨v, lo, rfl, _⟩ := h; rfl
  obtain ⟨v, lo, rfl, q⟩ := h
  refine ⟨_, (pss_one (ps_ret (pe_and (pe_callB call_isi (by rfl) B.zisinstance (by decide +kernel) (pa_cons (pv 0) (pa_cons (pe_ty "int" B.zint) pa_nil))) (pe_and (pe_not (pe_callB call_isi (by rfl) B.zisinstance (by decide +kernel) (pa_cons (pv 0) (pa_cons (pe_ty "bool" B.zbool) pa_nil)))) (pe_one (pe_cmpR op_le (pv 1) (pv 0) (nomark _))))))), ?_⟩
  refine ⟨_, rfl, _, _, _, _, _, rfl, .ty "int", .base (.int v), kit_ty (r := true) (by decide +kernel), true, rfl, ?_⟩
  refine iteT ⟨_, rfl, _, _, _, _, _, rfl, .ty "bool", .base (.int v), kit_ty (r := false) (by decide +kernel), false, rfl, true, rfl, ?_⟩
  refine iteT ⟨_, rfl, _, rfl, _, _, rfl, rfl, q⟩
theorem has_is_number (D : DefAt K mg "is_number" s_is_number) (B : Blt0 mg) (h_is_number_from : Has P w K mg base 1 "is_number_from" ["value", "low"] spIsNumberFrom) : Has P w K mg base 2 "is_number" ["value", "low", "high"] spIsNumber := by
  refine D.has (fun _ _ _ _ _ _ us hl => match us, hl with | [_, _, _], _ => rfl) fun f fd F => F.ok sc_is_number (fun vs H Q E h => ?_) (fun cdv A outer s H vs Q E hr h => ?_)
  · obtain ⟨v, lo, hi, rfl, _⟩ := h; rfl
  obtain ⟨v, lo, hi, rfl, q⟩ := h
  refine ⟨_, (pss_one (ps_ret (pe_and (pe_h h_is_number_from (hr.mono (by decide)) (pa_cons (pv 0) (pa_cons (pv 1) pa_nil))) (pe_one (pe_cmpR op_le (pv 0) (pv 2) (nomark _)))))), ?_⟩
  refine ⟨_, rfl, _, rfl, v, lo, rfl, ?_⟩
  refine ⟨decide (lo ≤ v), rfl, ?_⟩
  refine ite2 (fun c => ?_) (fun c => ?_)
  · refine ⟨_, rfl, _, rfl, _, _, rfl, rfl, ?_⟩
    have e : decide (v ≤ hi) = decide (lo ≤ v ∧ v ≤ hi) := by
      have := of_decide_eq_true c
      by_cases z : v ≤ hi <;> simp [z, this]
    show Q (V.bl (decide (v ≤ hi))) _
    rw [e]; exact q
  · have e : false = decide (lo ≤ v ∧ v ≤ hi) := by
      refine (decide_eq_false fun z => c (decide_eq_true z.1)).symm
    rw [e]; exact q
theorem has_is_name (D : DefAt K mg "is_name" s_is_name) (B : Blt0 mg) (C : Cst mg) : Has P w K mg base 1 "is_name" ["value"] spIsName := by
  refine D.has (fun _ _ _ _ _ _ us hl => match us, hl with | [_], _ => rfl) fun f fd F => F.ok sc_is_name (fun vs H Q E h => ?_) (fun cdv A outer s H vs Q E hr h => ?_)
  · obtain ⟨t, rfl, _⟩ := h; rfl
  obtain ⟨t, rfl, ht, q⟩ := h
  refine ⟨_, (pss_cons (ps_if (PW.pt (pw_or (pt_not (pt_val (pe_callB call_isi (by rfl) B.zisinstance (by decide +kernel) (pa_cons (pv 0) (pa_cons (pe_ty "str" B.zstr) pa_nil))))) (pw_or1 (pt_not (pt_chain op_le op_le pe_int (pe_callB call_len_str (by rfl) B.zlen (by decide +kernel) (pa_cons (pv 0) pa_nil)) (pe_gint C.LONGEST_NAME)))))) (pss_one (ps_ret pe_bl)) pss_nil)
      (pss_one (ps_ret (pe_callB (call_allB rfl) (by rfl) B.zall (by decide +kernel) (pa_cons (pe_lc (own := [("letter", 1)]) rfl sc_is_name.nd (pi_str (pv 0)) (blkOk_by (N := ["value", "letter"]) (sc := defScope s_is_name) (own := [("letter", 1)]) (by decide +kernel)) (fun _ _ _ _ _ => (pg_name (i := 1) sc_is_name.nd rfl (.inl rfl) (.inr rfl))) (fun _ _ _ _ _ => pts_nil) (fun _ _ _ _ _ => (pe_cmpR op_in_sign (pv 1) (pe_gstr C.LETTERS) (by rfl)))) pa_nil))))), ?_⟩
  have hl := ht.1
  have hl2 := ht.2.1
  refine ⟨_, rfl, _, _, _, _, _, rfl, .ty "str", .base (.str t), kit_ty (r := true) (by decide +kernel), true, rfl, ?_⟩
  refine iteF ⟨_, rfl, _, rfl, Nat.le_of_lt (small1000 (by omega)), _, _, rfl, rfl, _, rfl, ?_⟩
  have c1 : decide ((1 : Int) ≤ (t.length : Int)) = true := decide_eq_true (by omega)
  have c2 : decide ((t.length : Int) ≤ 8) = true := decide_eq_true (by omega)
  rw [c1]
  refine iteT ⟨_, _, rfl, rfl, _, rfl, ?_⟩
  rw [c2]
  refine iteF ?_
  refine ⟨_, rfl, _, rfl, fun D2 hD => lc_it walk_str (fun i H1 => Same H H1 ∧ H1 D2 = some (.lst ((List.replicate i true).map V.bl))) ⟨same_new hD, upd_same⟩ (fun _ _ _ _ => True.intro) ?_ ?_⟩
  · rintro i x H1 H1' hi ⟨sm, e1⟩ ⟨rfl, c, hc, rfl⟩
    refine ⟨rfl, yesIf ⟨_, rfl, _, _, rfl, rfl, _, e1, ?_, Same.app hD sm, ?_⟩⟩
    · rw [List.length_map, List.length_replicate]
      refine small1000 ?_
      have : t.cps.size = t.length := rfl
      omega
    · have hm : c ∈ t.cps.toList := List.mem_of_getElem? (by rw [Array.getElem?_toList]; exact hc)
      have hin : decide (c ∈ (Str.ofString "abcdefghijklmnopqrstuvwxyz").cps.toList) = true := decide_eq_true (abc_has (ht.2.2 c hm))
      rw [upd_same, hin, List.replicate_succ', List.map_append]; rfl
  · rintro H1 ⟨sm, e1⟩
    refine ⟨_, _, rfl, SqL.of e1, ?_⟩
    have e : (List.replicate t.cps.size true).all id = true := by simp
    rw [e]; exact q H1 sm
theorem has_is_share (D : DefAt K mg "is_share" s_is_share) (B : Blt mg) (C : Cst mg) (h_is_number : Has P w K mg base 2 "is_number" ["value", "low", "high"] spIsNumber) : Has P w K mg base 3 "is_share" ["value"] spIsShare := by
  refine D.has (fun _ _ _ _ _ _ us hl => match us, hl with | [_], _ => rfl) fun f fd F => F.ok sc_is_share (fun vs H Q E h => ?_) (fun cdv A outer s H vs Q E hr h => ?_)
  · obtain ⟨q, e, p, rfl, _⟩ := h; rfl
  obtain ⟨t, e, p, rfl, ht, ⟨p1, p2, p3, p4⟩, q⟩ := h
  refine ⟨_, (pss_cons (ps_if (PW.pt (pw_or (pt_not (pt_val (pe_callB call_isi (by rfl) B.zisinstance (by decide +kernel) (pa_cons (pv 0) (pa_cons (pe_ty "tuple" B.ztuple) pa_nil))))) (pw_or1 (pt_cmpR op_ne (pe_callB call_len_seq (by rfl) B.zlen (by decide +kernel) (pa_cons (pv 0) pa_nil)) pe_int (nomark _))))) (pss_one (ps_ret pe_bl)) pss_nil)
      (pss_cons (ps_asg (pv 0) (pg_tup rfl (pgs_cons (pg_name (i := 1) sc_is_share.nd rfl (.inl rfl)) (pgs_cons (pg_name (i := 2) sc_is_share.nd rfl (.inl rfl)) pgs_nil))))
      (pss_cons (ps_if (PW.pt (pw_or (pt_not (pt_val (pe_h h_is_number (hr.mono (by decide)) (pa_cons (pv 2) (pa_cons pe_int (pa_cons (pe_gint C.MOST_PERIOD) pa_nil)))))) (pw_or1 (pt_not (pt_val (pe_h h_is_number (hr.mono (by decide)) (pa_cons (pv 1) (pa_cons pe_int (pa_cons (pv 2) pa_nil))))))))) (pss_one (ps_ret pe_bl)) pss_nil)
      (pss_one (ps_ret (pe_cmpR op_eq (pe_callBfun cr_gcd (by rfl) B.g_gcd (pa_cons (pv 1) (pa_cons (pv 2) pa_nil))) pe_int (nomark _))))))), ?_⟩
  refine ⟨_, rfl, _, _, _, _, _, rfl, .ty "tuple", .base (.tup ht), kit_ty (r := true) (by decide +kernel), true, rfl, ?_⟩
  refine iteF ⟨_, rfl, t, _, rfl, .inr (SqT.of ht), rfl, _, rfl, iteF ?_⟩
  refine ⟨_, rfl, t, _, rfl, SqT.of ht, rfl, _, _, rfl, _, _, rfl, rfl, ?_⟩
  refine ⟨_, rfl, _, _, _, rfl, _, rfl, ?_⟩
  have c1 : decide ((1 : Int) ≤ (p : Int) ∧ (p : Int) ≤ 16) = true := decide_eq_true (by omega)
  have c2 : decide ((1 : Int) ≤ (e : Int) ∧ (e : Int) ≤ (p : Int)) = true := decide_eq_true (by omega)
  rw [c1]
  refine iteF ⟨_, rfl, _, rfl, _, _, _, rfl, _, rfl, ?_⟩
  rw [c2]
  refine iteF ⟨_, rfl, _, rfl, _, _, rfl, rfl, ?_⟩
  have e1 : ((Nat.gcd ((e : Int)).natAbs ((p : Int)).natAbs : Nat) : Int) = 1 := by simp [p4]
  rw [e1]; exact q
end
end Ts
namespace Ts
open PySem PySem.Spec PyProof.Rows L2
section
variable {P : Program} {w : World} {K : PySem.W.Frag} {mg : Str → Option Value} {base : Heap}
theorem has_read_number (D : DefAt K mg "_read_number" s__read_number) (B : Blt mg) : Has P w K mg base 1 "_read_number" ["word", "most"] spReadNumber := by
  refine D.has (fun _ _ _ _ _ _ us hl => match us, hl with | [_, _], _ => rfl) fun f fd F => F.ok sc__read_number (fun vs H Q E h => ?_) (fun cdv A outer s H vs Q E hr h => ?_)
  · obtain ⟨n, m, rfl, _⟩ := h; rfl
  obtain ⟨n, m, rfl, n1, nm, m1, q⟩ := h
  refine ⟨_, (pss_cons (ps_for PassesOwn.never rfl (pi_range2 (by rfl) B.zrange (pa_cons pe_int (pa_cons (pe_op op_add (pv 1) pe_int) pa_nil))) (pg_name (i := 2) sc__read_number.nd rfl (.inl rfl)) (pss_one (ps_if (pt_cmpR op_eq (pv 0) (pe_callTy call_str_int (by rfl) B.zstr (by decide +kernel) (pa_cons (pv 2) pa_nil)) (nomark _)) (pss_one (ps_ret (pv 2))) pss_nil)))
      (pss_one (ps_ret pe_non))), ?_⟩
  refine ⟨_, rfl, _, _, rfl, rfl, 1, (m : Int) + 1, rfl, ⟨by omega, by omega, by omega, by omega⟩, for_range (lo := 1) (n := ((m : Int) + 1 - 1).toNat) (fun i σ H' => H' = H ∧ i < n ∧ ∃ v, σ = [some (.str (numS n)), some (.int m), v]) ⟨rfl, by omega, _, rfl⟩ ?_ ?_⟩
  · rintro i σ H' hi ⟨rfl, hin, v, rfl⟩
    have ec : (1 : Int) + (i : Int) = ((1 + i : Nat) : Int) := by omega
    refine ⟨_, rfl, _, rfl, _, rfl, num_okI (by omega) (by omega), rfl, _, rfl, ite2 (fun c => ?_) (fun c => ?_)⟩
    · have e : numS n = numS (1 + i) := by
        have := of_decide_eq_true c
        rw [ec] at this
        exact V.str.inj this
      have e2 := numS_inj e
      refine ⟨_, rfl, ?_⟩
      show Q (V.int ((1 : Int) + (i : Int))) _
      rw [ec, ← e2]; exact q
    · refine ⟨rfl, ?_, _, rfl⟩
      have : n ≠ 1 + i := fun e => c (by
        refine decide_eq_true ?_
        rw [ec, ← e]; rfl)
      omega
  · rintro σ H' ⟨rfl, hin, v, rfl⟩
    omega
theorem has_read_hands (D : DefAt K mg "_read_hands" s__read_hands) (B : Blt mg) (C : Cst mg) (h__read_number : Has P w K mg base 1 "_read_number" ["word", "most"] spReadNumber) : Has P w K mg base 2 "_read_hands" ["row"] spReadHands := by
  refine D.has (fun _ _ _ _ _ _ us hl => match us, hl with | [_], _ => rfl) fun f fd F => F.ok sc__read_hands (fun vs H Q E h => ?_) (fun cdv A outer s H vs Q E hr h => ?_)
  · obtain ⟨n, rfl, _⟩ := h; rfl
  obtain ⟨n, rfl, n1, n6, q⟩ := h
  refine ⟨_, (pss_cons (ps_set (i := 1) sc__read_hands.nd rfl (.inl rfl) (pe_split (pv 0) pe_str))
      (pss_cons (ps_if (PW.pt (pw_or (pt_cmpR op_ne (pe_callB call_len_seq (by rfl) B.zlen (by decide +kernel) (pa_cons (pv 1) pa_nil)) pe_int (nomark _)) (pw_or1 (pt_cmpR op_ne (pe_ix ix_list (pv 1) pe_int (fun _ _ => rfl)) pe_str (nomark _))))) (pss_one (ps_ret pe_non)) pss_nil)
      (pss_one (ps_ret (pe_h h__read_number (hr.mono (by decide)) (pa_cons (pe_ix ix_list (pv 1) pe_int (fun _ _ => rfl)) (pa_cons (pe_gint C.MOST_HANDS) pa_nil))))))), ?_⟩
  have ln : (handsS n).length + 2 ≤ sizeLine := by
    have := numS_len (n := n) (by omega)
    have l6 : (Str.ofString "hands ").length = 6 := by decide
    refine Nat.le_of_lt (small1000 ?_)
    unfold handsS
    rw [Str.length_append, l6]; omega
  refine ⟨_, rfl, ⟨_, rfl⟩, _, _, rfl, rfl, by decide, ln, fun p hp => ?_⟩
  rw [hands_split]
  have s1 : Same H (upd H p (.lst ([Str.ofString "hands", numS n].map V.str))) := same_new hp
  have e1 : (upd H p (.lst ([Str.ofString "hands", numS n].map V.str))) p = some (.lst [.str (Str.ofString "hands"), .str (numS n)]) := upd_same
  generalize upd H p (.lst ([Str.ofString "hands", numS n].map V.str)) = H1 at s1 e1
  refine ⟨_, rfl, p, _, rfl, .inl (SqL.of e1), rfl, _, rfl, iteF ?_⟩
  refine ⟨_, rfl, p, _, 0, _, rfl, rfl, SqL.of e1, atI_nat (j := 0) rfl, rfl, _, rfl, iteNS rfl ?_⟩
  refine ⟨_, rfl, p, _, 1, _, rfl, rfl, SqL.of e1, atI_nat (j := 1) rfl, n, 6, rfl, n1, n6, by decide, q _ s1⟩
theorem has_read_work (D : DefAt K mg "_read_work" s__read_work) (B : Blt mg) (C : Cst mg) (h__read_number : Has P w K mg base 1 "_read_number" ["word", "most"] spReadNumber)
    (h_is_name : Has P w K mg base 1 "is_name" ["value"] spIsName) (h_is_share : Has P w K mg base 3 "is_share" ["value"] spIsShare) : Has P w K mg base 4 "_read_work" ["row"] spReadWork := by
  refine D.has (fun _ _ _ _ _ _ us hl => match us, hl with | [_], _ => rfl) fun f fd F => F.ok sc__read_work (fun vs H Q E h => ?_) (fun cdv A outer s H vs Q E hr h => ?_)
  · obtain ⟨j, rfl, _⟩ := h; rfl
  obtain ⟨j, rfl, ht, hg, q⟩ := h
  refine ⟨_, (pss_cons (ps_set (i := 1) sc__read_work.nd rfl (.inl rfl) (pe_split (pv 0) pe_str))
      (pss_cons (ps_if (PW.pt (pw_or (pt_cmpR op_ne (pe_callB call_len_seq (by rfl) B.zlen (by decide +kernel) (pa_cons (pv 1) pa_nil)) pe_int (nomark _)) (pw_or (pt_cmpR op_ne (pe_ix ix_list (pv 1) pe_int (fun _ _ => rfl)) pe_str (nomark _)) (pw_or1 (pt_not (pt_val (pe_h h_is_name (hr.mono (by decide)) (pa_cons (pe_ix ix_list (pv 1) pe_int (fun _ _ => rfl)) pa_nil)))))))) (pss_one (ps_ret pe_non)) pss_nil)
      (pss_cons (ps_set (i := 3) sc__read_work.nd rfl (.inl rfl) (pe_callTy call_tuple_of (by rfl) B.ztuple (by decide +kernel) (pa_cons (pe_lc (own := [("word", 2)]) rfl sc__read_work.nd (pi_list (pe_split (pe_ix ix_list (pv 1) pe_int (fun _ _ => rfl)) pe_str)) (blkOk_by (N := ["row", "words", "word", "share"]) (sc := defScope s__read_work) (own := [("word", 2)]) (by decide +kernel)) (fun _ _ _ _ _ => (pg_name (i := 2) sc__read_work.nd rfl (.inl rfl) (.inr rfl))) (fun _ _ _ _ _ => pts_nil) (fun _ _ _ _ _ => (pe_h h__read_number (hr.mono (by decide)) (pa_cons (pv 2) (pa_cons (pe_gint C.MOST_PERIOD) pa_nil))))) pa_nil)))
      (pss_cons (ps_if (pt_not (pt_val (pe_h h_is_share (hr.mono (by decide)) (pa_cons (pv 3) pa_nil)))) (pss_one (ps_ret pe_non)) pss_nil)
      (pss_one (ps_ret (pe_tup (pa_cons (pe_ix ix_list (pv 1) pe_int (fun _ _ => rfl)) (pa_cons (pv 3) pa_nil))))))))), ?_⟩
  have hg2 : GoodPart 1000 j.2.1 j.2.2 := ⟨hg.1, hg.2.1, Nat.le_trans hg.2.2.1 (by decide), hg.2.2.2⟩
  obtain ⟨g1, g2, g3, g4⟩ := id hg
  have ln : (rowS j).length + 2 ≤ sizeLine := Nat.le_of_lt (small1000 (by have := rowS_len ht hg2; omega))
  refine ⟨_, rfl, ⟨_, rfl⟩, _, _, rfl, rfl, by decide, ln, fun p hp => ?_⟩
  rw [row_split ht]
  generalize hw2 : Txt.join (Str.ofString "/") [numS j.2.1, numS j.2.2] = w2
  have s1 : Same H (upd H p (.lst ([Str.ofString "work", j.1, w2].map V.str))) := same_new hp
  have e1 : (upd H p (.lst ([Str.ofString "work", j.1, w2].map V.str))) p = some (.lst [.str (Str.ofString "work"), .str j.1, .str w2]) := upd_same
  generalize upd H p (.lst ([Str.ofString "work", j.1, w2].map V.str)) = H1 at s1 e1
  refine ⟨_, rfl, p, _, rfl, .inl (SqL.of e1), rfl, _, rfl, iteF ?_⟩
  refine ⟨_, rfl, p, _, 0, _, rfl, rfl, SqL.of e1, atI_nat (j := 0) rfl, rfl, _, rfl, iteNS rfl ?_⟩
  refine ⟨_, rfl, p, _, 1, _, rfl, rfl, SqL.of e1, atI_nat (j := 1) rfl, j.1, rfl, ht, fun H2 s2 => ⟨true, rfl, iteF ?_⟩⟩
  have e2 := s2 _ _ e1
  -- the share's two sides
  have l2 : w2.length + 2 ≤ sizeLine := by
    rw [← hw2, join_two, Str.length_append, Str.length_append]
    have a := numS_len (n := j.2.1) (by omega)
    have b := numS_len (n := j.2.2) (by omega)
    have c : (Str.ofString "/").length = 1 := by decide
    exact Nat.le_of_lt (small1000 (by omega))
  refine ⟨_, rfl, p, _, 2, _, rfl, rfl, SqL.of e2, atI_nat (j := 2) rfl, ⟨_, rfl⟩, _, _, rfl, rfl, by decide, l2, fun p3 hp3 => ?_⟩
  rw [← hw2, part_split]
  have s3 : Same H2 (upd H2 p3 (.lst ([numS j.2.1, numS j.2.2].map V.str))) := same_new hp3
  have e3 : (upd H2 p3 (.lst ([numS j.2.1, numS j.2.2].map V.str))) p3 = some (.lst [.str (numS j.2.1), .str (numS j.2.2)]) := upd_same
  generalize upd H2 p3 (.lst ([numS j.2.1, numS j.2.2].map V.str)) = H3 at s3 e3
  refine ⟨p3, rfl, ⟨_, SqL.of e3⟩, fun D4 hD4 => lc_list (K := K) (a := p3) (xs := [.str (numS j.2.1), .str (numS j.2.2)]) (fun i H4 => Same H3 H4 ∧ H4 D4 = some (.lst (([(j.2.1 : Int), (j.2.2 : Int)].take i).map V.int))) ⟨same_new hD4, upd_same⟩ (fun _ _ _ z => SqL.of (z.1 _ _ e3)) ?_ ?_⟩
  · rintro i x H4 hx ⟨s4, e4⟩
    match i, hx with
    | 0, hx =>
      obtain rfl : V.str (numS j.2.1) = x := Option.some.inj hx
      exact ⟨rfl, yesIf ⟨_, rfl, j.2.1, 16, rfl, g1, by omega, by decide, _, e4, by show 0 < sizeLine; decide, Same.app hD4 s4, upd_same⟩⟩
    | 1, hx =>
      obtain rfl : V.str (numS j.2.2) = x := Option.some.inj hx
      exact ⟨rfl, yesIf ⟨_, rfl, j.2.2, 16, rfl, by omega, g3, by decide, _, e4, by show 1 < sizeLine; decide, Same.app hD4 s4, upd_same⟩⟩
  rintro H4 ⟨s4, e4⟩
  have e4 : H4 D4 = some (.lst [.int (j.2.1 : Int), .int (j.2.2 : Int)]) := e4
  refine ⟨D4, _, rfl, .inl ⟨SqL.of e4, fun p5 hp5 => ?_⟩⟩
  have s5 : Same H4 (upd H4 p5 (.tup [.int (j.2.1 : Int), .int (j.2.2 : Int)])) := same_new hp5
  have e5 : (upd H4 p5 (.tup [.int (j.2.1 : Int), .int (j.2.2 : Int)])) p5 = some (.tup [.int (j.2.1 : Int), .int (j.2.2 : Int)]) := upd_same
  generalize upd H4 p5 (.tup [.int (j.2.1 : Int), .int (j.2.2 : Int)]) = H5 at s5 e5
  refine ⟨_, rfl, p5, _, _, rfl, e5, hg, true, rfl, iteF ?_⟩
  have e6 := s5 _ _ (s4 _ _ (s3 _ _ e2))
  refine ⟨_, rfl, p, _, 1, _, rfl, rfl, SqL.of e6, atI_nat (j := 1) rfl, _, rfl, by show 2 ≤ sizeLine; decide, fun p6 hp6 => ?_⟩
  exact q p6 p5 _ ((s1.trans (s2.trans (s3.trans (s4.trans s5)))).trans (same_new hp6)) upd_same (same_new hp6 _ _ e5)
end
end Ts
namespace Ts
open PySem PySem.Spec PyProof.Rows L2
section
variable {P : Program} {w : World} {K : PySem.W.Frag} {mg : Str → Option Value} {base : Heap}
theorem not_again {js : List Job} {i : Nat} {j y : Job} (h : (js.map (·.1)).Nodup) (hj : js[i]? = some j) (hy : y ∈ js.take i) (e : y.1 = j.1) : False := by
  have h2 : (js.take (i + 1)).map (·.1) = (js.take i).map (·.1) ++ [j.1] := map_take_succ _ hj
  have h3 : ((js.take (i + 1)).map (·.1)).Nodup := by rw [List.map_take]; exact h.sublist (List.take_sublist _ _)
  rw [h2] at h3
  exact (List.nodup_append.mp h3).2.2 y.1 (List.mem_map_of_mem hy) j.1 (by simp) e
theorem parts_cast (js : List Job) (t : Nat) : (js.map fun j => ((j.2.1 * (t / j.2.2) : Nat) : Int)).sum = ((partsN js t : Nat) : Int) := by
  unfold partsN
  induction js with
  | nil => rfl
  | cons j js ih =>
    rw [List.map_cons, List.map_cons, List.sum_cons, List.sum_cons, ih]
    omega
theorem has_read_works (D : DefAt K mg "_read_works" s__read_works) (B : Blt mg) (h__read_work : Has P w K mg base 4 "_read_work" ["row"] spReadWork) : Has P w K mg base 5 "_read_works" ["rows"] (spReadWorks K) := by
  refine D.has (fun _ _ _ _ _ _ us hl => match us, hl with | [_], _ => rfl) fun f fd F => F.ok sc__read_works (fun vs H Q E h => ?_) (fun cdv A outer s H vs Q E hr h => ?_)
  · obtain ⟨a, js, rfl, _⟩ := h; rfl
  obtain ⟨a, js, rfl, hS, G, hl, q⟩ := h
  have hu := hu_of hr
  refine ⟨_, (pss_cons (ps_set (i := 1) sc__read_works.nd rfl (.inl rfl) pe_dnewK)
      (pss_cons (ps_for PassesOwn.never rfl (pi_list (pv 0)) (pg_name (i := 2) sc__read_works.nd rfl (.inl rfl)) (pss_cons (ps_set (i := 3) sc__read_works.nd rfl (.inl rfl) (pe_h h__read_work (hr.mono (by decide)) (pa_cons (pv 2) pa_nil)))
      (pss_cons (ps_if (PW.pt (pw_or (pt_cmpR op_isN (pv 3) pe_non (nomark _)) (pw_or1 (pt_cmp (pc_din hu (pe_ix ix_tup (pv 3) pe_int (fun _ _ => rfl)) (pv 1)))))) (pss_one (ps_ret pe_non)) pss_nil)
      (pss_one (ps_dput hu (pv 1) (pe_ix ix_tup (pv 3) pe_int (fun _ _ => rfl)) (pe_ix ix_tup (pv 3) pe_int (fun _ _ => rfl)) rfl)))))
      (pss_one (ps_ret (pv 1))))), ?_⟩
  refine fun d hd => ?_
  have s1 : Same H (upd H d (.dK [])) := same_new hd
  have lx : ((js.map rowS).map V.str).length = js.length := by rw [List.length_map, List.length_map]
  refine ⟨_, rfl, a, rfl, ⟨_, s1.seq hS⟩, for_list (K := K) (a := a) (xs := (js.map rowS).map V.str) (fun i σ H2 => Same H H2 ∧ ∃ (kvs : List (Key × V)) (v1 v2 : Option V), H2 d = some (.dK kvs) ∧ KvsOf K (hid d H2) kvs (js.take i) ∧ σ = [some (.ref a), some (.ref d), v1, v2])
    ⟨s1, [], _, _, upd_same, ⟨rfl, .nil⟩, rfl⟩ (fun _ _ _ _ z => z.1.seq hS) ?_ ?_⟩
  · rintro i x σ H2 hx ⟨sm, kvs, v1, v2, e2, ⟨k1, k2⟩, rfl⟩
    obtain ⟨j, hj, rfl⟩ : ∃ j, js[i]? = some j ∧ x = .str (rowS j) := by
      rw [List.map_map, List.getElem?_map] at hx
      cases e : js[i]? with
      | none => rw [e] at hx; cases hx
      | some j => rw [e] at hx; exact ⟨j, rfl, (Option.some.inj hx).symm⟩
    have hjm : j ∈ js := List.mem_of_getElem? hj
    have hil : i < js.length := (List.getElem?_eq_some_iff.mp hj).1
    refine ⟨_, rfl, j, rfl, G.tag j hjm, G.part j hjm, fun p pq H3 s3 ep eq => ?_⟩
    have e3 := s3 _ _ e2
    have npd : p ≠ d := ne_of ep e3 (by intro z; cases z)
    have nqd : pq ≠ d := ne_of eq e3 (by intro z; cases z)
    -- is it none, or there already
    refine ⟨_, rfl, rfl, _, rfl, iteF ?_⟩
    have kl : kvs.length = i := by
      have := congrArg List.length k1
      rw [List.length_map, List.length_map, List.length_take] at this
      omega
    have hnew : valV kvs (Sum.inr j.1 : Key) = none := by
      cases z : valV kvs (Sum.inr j.1 : Key) with
      | none => rfl
      | some v =>
        have hm := valV_in z
        rw [k1] at hm
        obtain ⟨y, hy, e⟩ := List.mem_map.mp hm
        exact (not_again G.nd hj hy (Sum.inr.inj e)).elim
    refine ⟨_, rfl, p, _, 0, _, rfl, rfl, SqT.of ep, atI_nat (j := 0) rfl, _, rfl, d, _, rfl, DGet.k (k := Sum.inr j.1) e3, _, rfl, ?_⟩
    rw [hnew]
    refine iteF ?_
    refine ⟨_, rfl, p, _, 1, _, rfl, rfl, SqT.of ep, atI_nat (j := 1) rfl, _, rfl, _, rfl, p, _, 0, _, rfl, rfl, SqT.of ep, atI_nat (j := 0) rfl, d, _, rfl, DPut.k (k := Sum.inr j.1) e3 (small1000 (by omega)), ?_⟩
    have s4 : Same H (upd H3 d (.dK (putK kvs (Sum.inr j.1) (.ref pq)))) := Same.app hd (sm.trans s3)
    refine ⟨s4, _, _, _, upd_same, ?_, rfl⟩
    rw [putK_new _ hnew]
    refine ⟨?_, ?_⟩
    · rw [List.map_append, k1, map_take_succ _ hj]; rfl
    · rw [List.map_append, map_take_succ _ hj]
      refine (k2.mono fun b o z => ?_).snoc ?_
      · obtain ⟨z1, z2⟩ := hid_some z
        rw [hid_ne z1, upd_ne z1]
        exact s3 _ _ z2
      · exact .tup (SqT.of (by rw [hid_ne nqd, upd_ne nqd]; exact eq)) (.cons (.int _) (.cons (.int _) .nil))
  · rintro σ H2 ⟨sm, kvs, v1, v2, e2, kk, rfl⟩
    rw [lx, List.take_length] at kk
    exact ⟨_, rfl, q d kvs H2 sm hd e2 ⟨kk.1, kk.2.mono hid_sub⟩⟩
theorem has_span_of (D : DefAt K mg "_span_of" s__span_of) (B : Blt mg) : Has P w K mg base 1 "_span_of" ["shares"] (spSpanOf K) := by
  refine D.has (fun _ _ _ _ _ _ us hl => match us, hl with | [_], _ => rfl) fun f fd F => F.ok sc__span_of (fun vs H Q E h => ?_) (fun cdv A outer s H vs Q E hr h => ?_)
  · obtain ⟨a, xs, js, rfl, _⟩ := h; rfl
  obtain ⟨a, xs, js, rfl, hS, hA, G, q⟩ := h
  refine ⟨_, (pss_cons (ps_set (i := 1) sc__span_of.nd rfl (.inl rfl) pe_int)
      (pss_cons (ps_for PassesOwn.never rfl (pi_tup (pv 0)) (pg_tup rfl (pgs_cons (pg_name (i := 2) sc__span_of.nd rfl (.inl rfl)) (pgs_cons (pg_name (i := 3) sc__span_of.nd rfl (.inl rfl)) pgs_nil))) (pss_one (ps_set (i := 1) sc__span_of.nd rfl (.inl rfl) (pe_callBfun cr_lcm (by rfl) B.g_lcm (pa_cons (pv 1) (pa_cons (pv 3) pa_nil))))))
      (pss_one (ps_ret (pv 1))))), ?_⟩
  have lx : xs.length = js.length := by rw [hA.length]; exact List.length_map _
  refine ⟨_, rfl, a, rfl, ⟨_, hS⟩, for_tup (K := K) (a := a) (xs := xs) (fun i σ H2 => H2 = H ∧ ∃ (v1 v2 : Option V), σ = [some (.ref a), some (.int (spanN (js.take i))), v1, v2]) ⟨rfl, _, _, rfl⟩ (fun _ _ _ _ z => z.1 ▸ hS) ?_ ?_⟩
  · rintro i x σ H2 hx ⟨rfl, v1, v2, rfl⟩
    obtain ⟨d, hd, hv⟩ := hA.get hx
    unfold sharesD at hd
    rw [List.getElem?_map] at hd
    cases ej : js[i]? with
    | none => rw [ej] at hd; cases hd
    | some j =>
      rw [ej] at hd
      have ed : partD j.2.1 j.2.2 = d := Option.some.inj hd
      subst ed
      obtain ⟨b, ys, rfl, hb, hy⟩ := hv.tuple
      obtain ⟨y1, y2, rfl, h1, h2⟩ := hy.two
      have hjm : j ∈ js := List.mem_of_getElem? ej
      obtain ⟨g1, g2, g3, _⟩ := G.part j hjm
      have gt : Good 16 (js.take i) := ⟨by rw [List.map_take]; exact G.nd.sublist (List.take_sublist _ _), fun k hk => G.tag k (List.mem_of_mem_take hk), fun k hk => G.part k (List.mem_of_mem_take hk)⟩
      have sl := span_le gt
      have en : spanN (js.take (i + 1)) = Nat.lcm (spanN (js.take i)) j.2.2 := by
        unfold spanN
        rw [List.take_add_one, ej, List.foldl_append]; rfl
      refine ⟨b, _, rfl, hb, rfl, _, _, rfl, _, _, rfl, rfl, _, rfl, _, rfl, spanN (js.take i), j.2.2, ?_, by omega, by omega, rfl, some y1, some y2, ?_⟩
      · rw [h2.int_eq]
      · rw [en]; rfl
  · rintro σ H2 ⟨rfl, v1, v2, rfl⟩
    rw [lx, List.take_length]
    exact ⟨_, rfl, q _ (Same.refl _)⟩
theorem has_total_of (D : DefAt K mg "_total_of" s__total_of) (B : Blt mg) : Has P w K mg base 1 "_total_of" ["shares", "span"] (spTotalOf K) := by
  refine D.has (fun _ _ _ _ _ _ us hl => match us, hl with | [_, _], _ => rfl) fun f fd F => F.ok sc__total_of (fun vs H Q E h => ?_) (fun cdv A outer s H vs Q E hr h => ?_)
  · obtain ⟨a, xs, js, rfl, _⟩ := h; rfl
  obtain ⟨a, xs, js, rfl, hS, hA, G, hl, q⟩ := h
  refine ⟨_, (pss_cons (ps_set (i := 4) sc__total_of.nd rfl (.inl rfl) (pe_callB (cr_sum rfl) (by rfl) B.zsum (by decide +kernel) (pa_cons (pe_lc (own := [("top", 2), ("bottom", 3)]) rfl sc__total_of.nd (pi_tup (pv 0)) (blkOk_by (N := ["shares", "span", "top", "bottom", "parts", "common"]) (sc := defScope s__total_of) (own := [("top", 2), ("bottom", 3)]) (by decide +kernel)) (fun _ _ _ _ _ => (pg_tupK (K := K) (n := 2) rfl rfl (pgs_cons (pg_name (i := 2) sc__total_of.nd rfl (.inl rfl) (.inr rfl)) (pgs_cons (pg_name (i := 3) sc__total_of.nd rfl (.inl rfl) (.inr rfl)) pgs_nil)))) (fun _ _ _ _ _ => pts_nil) (fun _ _ _ _ _ => (pe_op op_mul (pv 2) (pe_op op_fdiv (pv 1) (pv 3))))) pa_nil)))
      (pss_cons (ps_set (i := 5) sc__total_of.nd rfl (.inl rfl) (pe_callBfun cr_gcd (by rfl) B.g_gcd (pa_cons (pv 4) (pa_cons (pv 1) pa_nil))))
      (pss_one (ps_ret (pe_tup (pa_cons (pe_op op_fdiv (pv 4) (pv 5)) (pa_cons (pe_op op_fdiv (pv 1) (pv 5)) pa_nil))))))), ?_⟩
  have lx : xs.length = js.length := by rw [hA.length]; exact List.length_map _
  have sp := span_pos G
  have sl := span_le G
  refine ⟨_, rfl, a, rfl, ⟨_, hS⟩, fun D2 hD => lc_tup (K := K) (a := a) (xs := xs) (fun i H2 => Same H H2 ∧ H2 D2 = some (.lst (((js.take i).map fun j => ((j.2.1 * (spanN js / j.2.2) : Nat) : Int)).map V.int))) ⟨same_new hD, upd_same⟩ (fun _ _ _ z => sameT z.1 hS) ?_ ?_⟩
  · rintro i x H2 hx ⟨sm, e2⟩
    obtain ⟨d, hd, hv⟩ := hA.get hx
    unfold sharesD at hd
    rw [List.getElem?_map] at hd
    cases ej : js[i]? with
    | none => rw [ej] at hd; cases hd
    | some j =>
      rw [ej] at hd
      have ed : partD j.2.1 j.2.2 = d := Option.some.inj hd
      subst ed
      obtain ⟨b, ys, rfl, hb, hy⟩ := hv.tuple
      obtain ⟨y1, y2, rfl, h1, h2⟩ := hy.two
      have hjm : j ∈ js := List.mem_of_getElem? ej
      obtain ⟨g1, g2, g3, _⟩ := G.part j hjm
      have y1' := h1.int_eq
      have y2' := h2.int_eq
      subst y1' y2'
      have cd : CDiv (spanN js : Int) (j.2.2 : Int) := ⟨by omega, by omega⟩
      refine ⟨b, _, rfl, sameT sm hb, rfl, _, _, rfl, _, _, rfl, rfl, rfl, yesIf ?_⟩
      refine ⟨_, rfl, _, rfl, _, rfl, _, _, rfl, rfl, cd, _, _, rfl, rfl, .inl ⟨by omega, by omega⟩, _, e2, ?_, Same.app hD sm, ?_⟩
      · rw [List.length_map, List.length_map, List.length_take]
        exact small1000 (by omega)
      · rw [upd_same, map_take_succ _ ej, List.map_append]
        rfl
  · rintro H2 ⟨sm, e2⟩
    rw [lx, List.take_length] at e2
    have es : (js.map fun j => ((j.2.1 * (spanN js / j.2.2) : Nat) : Int)).sum = (partsN js (spanN js) : Int) := by
      exact parts_cast js _
    refine ⟨_, _, rfl, SqL.of e2, ?_⟩
    rw [es]
    have g0 : 0 < Nat.gcd (partsN js (spanN js)) (spanN js) := Nat.gcd_pos_of_pos_right _ sp
    have g1 : Nat.gcd (partsN js (spanN js)) (spanN js) ≤ spanN js := Nat.le_of_dvd sp (Nat.gcd_dvd_right _ _)
    have c1 : CDiv (partsN js (spanN js) : Int) ((Nat.gcd (partsN js (spanN js)) (spanN js) : Nat) : Int) := ⟨by omega, by omega⟩
    have c2 : CDiv (spanN js : Int) ((Nat.gcd (partsN js (spanN js)) (spanN js) : Nat) : Int) := ⟨by omega, by omega⟩
    refine ⟨_, rfl, _, rfl, _, _, rfl, ?_⟩
    refine ⟨_, rfl, _, rfl, _, _, rfl, rfl, c1, _, rfl, _, rfl, _, _, rfl, rfl, c2, by show 2 ≤ sizeLine; decide, fun p hp => ?_⟩
    exact q p _ (sm.trans (same_new hp)) (sm.free hp) upd_same
end
end Ts
namespace Ts
open PySem PySem.Spec PyProof.Rows L2
section
variable {P : Program} {w : World} {K : PySem.W.Frag} {mg : Str → Option Value} {base : Heap}
theorem ok_init {f C : Addr} {fd : FuncData} (F : Fun K "__init__" "Lot.__init__" s_Lot___init__ f fd) (T : LotC K mg C) (B : Blt mg) (C2 : Cst mg) (h__read_hands : Has P w K mg base 2 "_read_hands" ["row"] spReadHands) (h__read_works : Has P w K mg base 5 "_read_works" ["rows"] (spReadWorks K))
    (h__span_of : Has P w K mg base 1 "_span_of" ["shares"] (spSpanOf K)) (h__total_of : Has P w K mg base 1 "_total_of" ["shares", "span"] (spTotalOf K)) : FnOk P w K mg base CX0 6 f fd ["self", "text"] (spInit K C) := by
  refine F.ok sc_Lot___init__ (fun vs H Q E h => ?_) (fun cdv A outer s H vs Q E hr h => ?_)
  · obtain ⟨a, dx, n, js, rfl, _⟩ := h; rfl
  obtain ⟨a, dx, n, js, rfl, ha, n1, n6, G, l0, l6, q⟩ := h
  refine ⟨_, (pss_cons (ps_if (pt_not (pt_val (pe_callB call_isi (by rfl) B.zisinstance (by decide +kernel) (pa_cons (pv 1) (pa_cons (pe_ty "str" B.zstr) pa_nil))))) (pss_one ps_never) pss_nil)
      (pss_cons (ps_asg (pe_split (pv 1) pe_str) (pg_star (i := 2) (j := 3) rfl sc_Lot___init__.nd rfl rfl rfl rfl))
      (pss_cons (ps_set (i := 4) sc_Lot___init__.nd rfl (.inl rfl) (pe_h h__read_hands (hr.mono (by decide)) (pa_cons (pv 2) pa_nil)))
      (pss_cons (ps_set (i := 5) sc_Lot___init__.nd rfl (.inl rfl) (pe_h h__read_works (hr.mono (by decide)) (pa_cons (pv 3) pa_nil)))
      (pss_cons (ps_if (PW.pt (pw_or (pt_cmpR op_isN (pv 4) pe_non (nomark _)) (pw_or (pt_cmpR op_isN (pv 5) pe_non (nomark _)) (pw_or1 (pt_not (pt_chain op_le op_le pe_int (pe_callB call_lenD (by rfl) B.zlen (by decide +kernel) (pa_cons (pv 5) pa_nil)) (pe_gint C2.MOST_WORKS))))))) (pss_one ps_never) pss_nil)
      (pss_cons (ps_fld (pv 0) (pv 1) rfl)
      (pss_cons (ps_fld (pv 0) (pv 4) rfl)
      (pss_cons (ps_fld (pv 0) (pe_callTy (call_tuple_dK rfl) (by rfl) B.ztuple (by decide +kernel) (pa_cons (pv 5) pa_nil)) rfl)
      (pss_cons (ps_fld (pv 0) (pe_tupVals rfl (by rfl) B.ztuple (pv 5)) rfl)
      (pss_cons (ps_fld (pv 0) (pe_h h__span_of (hr.mono (by decide)) (pa_cons (pe_fld (pv 0) rfl) pa_nil)) rfl)
      (pss_one (ps_fld (pv 0) (pe_h h__total_of (hr.mono (by decide)) (pa_cons (pe_fld (pv 0) rfl) (pa_cons (pe_fld (pv 0) rfl) pa_nil))) rfl)))))))))))), ?_⟩
  have G2 := G.mono (show 16 ≤ 1000 by decide)
  refine ⟨_, rfl, _, _, _, _, _, rfl, .ty "str", .base (.str _), kit_ty (r := true) (by decide +kernel), true, rfl, iteF ?_⟩
  -- the rows
  refine ⟨_, rfl, ⟨_, rfl⟩, _, _, rfl, rfl, by decide, Nat.le_of_lt (small1000 (page_len (by omega) G2 (by omega))), fun p hp => ?_⟩
  rw [show Txt.split (pageS n js) (Str.ofString "\n") = rowsOf n js from page_split G.tag]
  have s1 : Same H (upd H p (.lst ((rowsOf n js).map V.str))) := same_new hp
  have e1 : (upd H p (.lst ((rowsOf n js).map V.str))) p = some (.lst (.str (handsS n) :: (js.map rowS).map V.str)) := upd_same
  generalize upd H p (.lst ((rowsOf n js).map V.str)) = H1 at s1 e1
  refine ⟨p, _, _, rfl, SqL.of e1, by rw [List.length_map, List.length_map]; omega, fun p2 hp2 => ?_⟩
  have s2 : Same H1 (upd H1 p2 (.lst ((js.map rowS).map V.str))) := same_new hp2
  have e2 : (upd H1 p2 (.lst ((js.map rowS).map V.str))) p2 = some (.lst ((js.map rowS).map V.str)) := upd_same
  generalize upd H1 p2 (.lst ((js.map rowS).map V.str)) = H2 at s2 e2
  -- hands, works
  refine ⟨_, rfl, n, rfl, n1, n6, fun H3 s3 => ?_⟩
  refine ⟨_, rfl, p2, js, rfl, SqL.of (s3 _ _ e2), G, by omega, fun d kvs H4 s4 hd4 e4 ⟨k1, k2⟩ => ?_⟩
  have kl : kvs.length = js.length := by
    have := congrArg List.length k1
    rw [List.length_map, List.length_map] at this; exact this
  have s04 : Same H H4 := s1.trans (s2.trans (s3.trans s4))
  refine ⟨_, rfl, rfl, _, rfl, iteF ⟨_, rfl, rfl, _, rfl, iteF ?_⟩⟩
  refine ⟨_, rfl, d, kvs, rfl, e4, _, _, rfl, rfl, _, rfl, ?_⟩
  have c1 : decide ((1 : Int) ≤ (kvs.length : Int)) = true := decide_eq_true (by omega)
  have c2 : decide ((kvs.length : Int) ≤ 6) = true := decide_eq_true (by omega)
  rw [c1]
  refine iteT ⟨_, _, rfl, rfl, _, rfl, ?_⟩
  rw [c2]
  refine iteF ?_
  -- the fields
  have few : ∀ fs : List (Str × V), fs.length ≤ 6 → fs.length < 1000 := fun _ h => by omega
  have f0 : (([] : List (Str × V))).length ≤ 0 := Nat.le_refl _
  have f1 := putF_len "_text" (.str (pageS n js)) []
  have nda : d ≠ a := fun e => by rw [e] at hd4; exact absurd (s1.trans (s2.trans s3) _ _ ha) (by rw [hd4]; exact fun z => nomatch z)
  refine ⟨_, rfl, _, rfl, a, C, dx, _, rfl, s04 _ _ ha, T.cl, T.n1, by show 0 < 1000; decide, ?_⟩
  have b5 : But a H4 (upd H4 a (.ins C dx (putF "_text" (.str (pageS n js)) []))) := But.set
  have e5 : (upd H4 a (.ins C dx (putF "_text" (.str (pageS n js)) []))) a = some (.ins C dx (putF "_text" (.str (pageS n js)) [])) := upd_same
  generalize upd H4 a (.ins C dx (putF "_text" (.str (pageS n js)) [])) = H5 at b5 e5
  refine ⟨_, rfl, _, rfl, a, C, dx, _, rfl, e5, T.cl, T.n2, few _ (by omega), ?_⟩
  have f2 := putF_len "_hands" (.int n) (putF "_text" (.str (pageS n js)) [])
  have b6 : But a H5 (upd H5 a (.ins C dx (putF "_hands" (.int n) (putF "_text" (.str (pageS n js)) [])))) := But.set
  have e6 : (upd H5 a (.ins C dx (putF "_hands" (.int n) (putF "_text" (.str (pageS n js)) [])))) a = some (.ins C dx (putF "_hands" (.int n) (putF "_text" (.str (pageS n js)) []))) := upd_same
  generalize upd H5 a (.ins C dx (putF "_hands" (.int n) (putF "_text" (.str (pageS n js)) []))) = H6 at b6 e6
  generalize hF2 : putF "_hands" (.int n) (putF "_text" (.str (pageS n js)) []) = F2 at f2 e6
  have b46 := b5.trans b6
  -- tuple(works)
  have ed6 := b46 _ _ nda e4
  refine ⟨_, rfl, d, kvs, rfl, ed6, fun pn ob hpn ob1 ob2 => ?_⟩
  have nmap : (kvs.map fun kv => kV kv.1) = js.map (fun j => V.str j.1) := by
    have := congrArg (List.map kV) k1
    rw [List.map_map, List.map_map] at this
    exact this
  rw [nmap]
  have s7 : Same H6 (upd H6 pn (.frz ob (.tup (js.map fun j => V.str j.1)))) := same_new hpn
  have en7 : (upd H6 pn (.frz ob (.tup (js.map fun j => V.str j.1)))) pn = some (.frz ob (.tup (js.map fun j => V.str j.1))) := upd_same
  generalize upd H6 pn (.frz ob (.tup (js.map fun j => V.str j.1))) = H7 at s7 en7
  refine ⟨_, rfl, a, C, dx, _, rfl, s7 _ _ e6, T.cl, T.n3, few _ (by omega), ?_⟩
  have f3 := putF_len "_names" (.ref pn) F2
  have b8 : But a H7 (upd H7 a (.ins C dx (putF "_names" (.ref pn) F2))) := But.set
  have e8 : (upd H7 a (.ins C dx (putF "_names" (.ref pn) F2))) a = some (.ins C dx (putF "_names" (.ref pn) F2)) := upd_same
  have npn : pn ≠ a := ne_of en7 (s7 _ _ e6) (by intro z; cases z)
  generalize upd H7 a (.ins C dx (putF "_names" (.ref pn) F2)) = H8 at b8 e8
  generalize hF3 : putF "_names" (.ref pn) F2 = F3 at f3 e8
  have b48 := (b46.trans (But.of_same s7)).trans b8
  have en8 := b8 _ _ npn en7
  -- tuple(works.values())
  refine ⟨_, rfl, d, kvs, rfl, b48 _ _ nda e4, fun ps hps => ?_⟩
  have s9 : Same H8 (upd H8 ps (.tup (kvs.map (·.2)))) := same_new hps
  have es9 : (upd H8 ps (.tup (kvs.map (·.2)))) ps = some (.tup (kvs.map (·.2))) := upd_same
  generalize upd H8 ps (.tup (kvs.map (·.2))) = H9 at s9 es9
  refine ⟨_, rfl, a, C, dx, _, rfl, s9 _ _ e8, T.cl, T.n4, few _ (by omega), ?_⟩
  have f4 := putF_len "_shares" (.ref ps) F3
  have b10 : But a H9 (upd H9 a (.ins C dx (putF "_shares" (.ref ps) F3))) := But.set
  have e10 : (upd H9 a (.ins C dx (putF "_shares" (.ref ps) F3))) a = some (.ins C dx (putF "_shares" (.ref ps) F3)) := upd_same
  have nps : ps ≠ a := ne_of es9 (s9 _ _ e8) (by intro z; cases z)
  generalize upd H9 a (.ins C dx (putF "_shares" (.ref ps) F3)) = H10 at b10 e10
  have l4 : (putF "_shares" (.ref ps) F3).lookup ("_shares" : Str) = some (.ref ps) := by rw [lookup_putF, if_pos rfl]
  generalize hF4 : putF "_shares" (.ref ps) F3 = F4 at f4 e10 l4
  have b410 := (b48.trans (But.of_same s9)).trans b10
  have en10 := b10 _ _ npn (s9 _ _ en8)
  have es10 := b10 _ _ nps es9
  have hk4 : DpAll K (hid a H4) (kvs.map (·.2)) (sharesD js) := DpAll.hide (s04 _ _ ha) NoSeq.ins k2
  -- the round
  refine ⟨_, rfl, a, C, dx, _, _, rfl, e10, T.cl, T.n4, l4, ps, _, js, rfl, SqT.of es10, (hk4.mono b410.hid).mono hid_sub, G, fun H11 s11 => ?_⟩
  refine ⟨_, rfl, a, C, dx, _, rfl, s11 _ _ e10, T.cl, T.n5, few _ (by omega), ?_⟩
  have f5 := putF_len "_span" (.int (spanN js)) F4
  have b12 : But a H11 (upd H11 a (.ins C dx (putF "_span" (.int (spanN js)) F4))) := But.set
  have e12 : (upd H11 a (.ins C dx (putF "_span" (.int (spanN js)) F4))) a = some (.ins C dx (putF "_span" (.int (spanN js)) F4)) := upd_same
  generalize upd H11 a (.ins C dx (putF "_span" (.int (spanN js)) F4)) = H12 at b12 e12
  have l5 : (putF "_span" (.int (spanN js)) F4).lookup ("_span" : Str) = some (.int (spanN js)) := by rw [lookup_putF, if_pos rfl]
  have l6' : (putF "_span" (.int (spanN js)) F4).lookup ("_shares" : Str) = some (.ref ps) := by rw [lookup_putF, if_neg (by decide +kernel)]; exact l4
  generalize hF5 : putF "_span" (.int (spanN js)) F4 = F5 at f5 e12 l5 l6'
  have b412 := (b410.trans (But.of_same s11)).trans b12
  have en12 := b12 _ _ npn (s11 _ _ en10)
  have es12 := b12 _ _ nps (s11 _ _ es10)
  -- the sum
  refine ⟨_, rfl, a, C, dx, _, _, rfl, e12, T.cl, T.n4, l6', _, rfl, a, C, dx, _, _, rfl, e12, T.cl, T.n5, l5, ps, _, js, rfl, SqT.of es12, (hk4.mono b412.hid).mono hid_sub, G, by omega, fun pt H13 s13 hpt et => ?_⟩
  refine ⟨_, rfl, a, C, dx, _, rfl, s13 _ _ e12, T.cl, T.n6, few _ (by omega), ?_⟩
  have e13 := s13 _ _ e12
  have npt : pt ≠ a := ne_of et e13 (by intro z; cases z)
  have b14 : But a H4 (upd H13 a (.ins C dx (putF "_total" (.ref pt) F5))) := (b412.trans (But.of_same s13)).trans But.set
  refine q _ ((But.of_same s04).trans b14) ⟨dx, pn, ps, pt, ?_, ?_, ?_, ?_⟩
  · rw [upd_same, ← hF5, ← hF4, ← hF3, ← hF2]; rfl
  · have enf : (upd H13 a (.ins C dx (putF "_total" (.ref pt) F5))) pn = some (.frz ob (.tup (js.map fun j => V.str j.1))) := by rw [upd_ne npn]; exact s13 _ _ en12
    exact ⟨ob, enf, ob1, ob2⟩
  · have esf : (upd H13 a (.ins C dx (putF "_total" (.ref pt) F5))) ps = some (.tup (kvs.map (·.2))) := by rw [upd_ne nps]; exact s13 _ _ es12
    exact .tup (SqT.of esf) ((hk4.mono b14.hid).mono hid_sub)
  · have etf : (upd H13 a (.ins C dx (putF "_total" (.ref pt) F5))) pt = some (.tup [.int (totTop js : Int), .int (totBot js : Int)]) := by rw [upd_ne npt]; exact et
    exact .tup (SqT.of etf) (.cons (.int _) (.cons (.int _) .nil))
end
end Ts
namespace Ts
open PySem PySem.Spec PyProof.Rows L2
section
variable {P : Program} {w : World} {K : PySem.W.Frag} {mg : Str → Option Value} {base : Heap}
theorem has_quotient_up (D : DefAt K mg "_quotient_up" s__quotient_up) : Has P w K mg base 1 "_quotient_up" ["top", "bottom"] spQUp := by
  refine D.has (fun _ _ _ _ _ _ us hl => match us, hl with | [_, _], _ => rfl) fun f fd F => F.ok sc__quotient_up (fun vs H Q E h => ?_) (fun cdv A outer s H vs Q E hr h => ?_)
  · obtain ⟨a, b, rfl, _⟩ := h; rfl
  obtain ⟨a, b, rfl, h1, h2, q⟩ := h
  refine ⟨_, (pss_one (ps_ret (pe_op op_fdiv (pe_op op_sub (pe_op op_add (pv 0) (pv 1)) pe_int) (pv 1)))), ?_⟩
  exact ⟨_, rfl, _, rfl, _, _, rfl, rfl, _, _, rfl, rfl, _, rfl, _, _, rfl, rfl, ⟨h1, by omega⟩, q⟩
theorem has_begin_of (D : DefAt K mg "begin_of" s_begin_of) : Has P w K mg base 1 "begin_of" ["share", "turn"] (spOf K fun e p t => .int (begI e p t)) := by
  refine D.has (fun _ _ _ _ _ _ us hl => match us, hl with | [_, _], _ => rfl) fun f fd F => F.ok sc_begin_of (fun vs H Q E h => ?_) (fun cdv A outer s H vs Q E hr h => ?_)
  · obtain ⟨v, e, p, t, rfl, _⟩ := h; rfl
  obtain ⟨v, e, p, t, rfl, hv, ⟨g1, g2, g3, g4⟩, q⟩ := h
  obtain ⟨a, rfl, hS⟩ := part_at hv
  refine ⟨_, (pss_cons (ps_asg (pv 0) (pg_tup rfl (pgs_cons (pg_name (i := 2) sc_begin_of.nd rfl (.inl rfl)) (pgs_cons (pg_name (i := 3) sc_begin_of.nd rfl (.inl rfl)) pgs_nil))))
      (pss_one (ps_ret (pe_op op_fdiv (pe_op op_mul (pe_op op_sub (pv 1) pe_int) (pv 3)) (pv 2))))), ?_⟩
  refine ⟨_, rfl, a, _, rfl, hS, rfl, _, _, rfl, _, _, rfl, rfl, ?_⟩
  exact ⟨_, rfl, _, _, rfl, rfl, _, rfl, _, _, rfl, rfl, .inr ⟨by omega, by omega⟩, _, rfl, _, _, rfl, rfl, ⟨by omega, by omega⟩, q⟩
theorem has_border_of (D : DefAt K mg "border_of" s_border_of) (h__quotient_up : Has P w K mg base 1 "_quotient_up" ["top", "bottom"] spQUp) : Has P w K mg base 2 "border_of" ["share", "turn"] (spOf K fun e p t => .int (borI e p t)) := by
  refine D.has (fun _ _ _ _ _ _ us hl => match us, hl with | [_, _], _ => rfl) fun f fd F => F.ok sc_border_of (fun vs H Q E h => ?_) (fun cdv A outer s H vs Q E hr h => ?_)
  · obtain ⟨v, e, p, t, rfl, _⟩ := h; rfl
  obtain ⟨v, e, p, t, rfl, hv, ⟨g1, g2, g3, g4⟩, q⟩ := h
  obtain ⟨a, rfl, hS⟩ := part_at hv
  refine ⟨_, (pss_cons (ps_asg (pv 0) (pg_tup rfl (pgs_cons (pg_name (i := 2) sc_border_of.nd rfl (.inl rfl)) (pgs_cons (pg_name (i := 3) sc_border_of.nd rfl (.inl rfl)) pgs_nil))))
      (pss_one (ps_ret (pe_h h__quotient_up (hr.mono (by decide)) (pa_cons (pe_op op_mul (pv 1) (pv 3)) (pa_cons (pv 2) pa_nil)))))), ?_⟩
  refine ⟨_, rfl, a, _, rfl, hS, rfl, _, _, rfl, _, _, rfl, rfl, ?_⟩
  exact ⟨_, rfl, _, rfl, _, _, rfl, rfl, .inr ⟨by omega, by omega⟩, _, rfl, _, _, rfl, by omega, by omega, q⟩
end
end Ts
namespace Ts
open PySem PySem.Spec PyProof.Rows L2
section
variable {P : Program} {w : World} {K : PySem.W.Frag} {mg : Str → Option Value} {base : Heap}
theorem has_overlaps_of (D : DefAt K mg "overlaps_of" s_overlaps_of) (h_begin_of : Has P w K mg base 1 "begin_of" ["share", "turn"] (spOf K fun e p t => .int (begI e p t))) (h_border_of : Has P w K mg base 2 "border_of" ["share", "turn"] (spOf K fun e p t => .int (borI e p t))) :
    Has P w K mg base 3 "overlaps_of" ["share", "turn"] (spOf K fun e p t => .bl (overI e p t)) := by
  refine D.has (fun _ _ _ _ _ _ us hl => match us, hl with | [_, _], _ => rfl) fun f fd F => F.ok sc_overlaps_of (fun vs H Q E h => ?_) (fun cdv A outer s H vs Q E hr h => ?_)
  · obtain ⟨v, e, p, t, rfl, _⟩ := h; rfl
  obtain ⟨v, e, p, t, rfl, hv, g, q⟩ := h
  refine ⟨_, (pss_one (ps_ret (pe_cmpR op_gt (pe_h h_border_of (hr.mono (by decide)) (pa_cons (pv 0) (pa_cons (pv 1) pa_nil))) (pe_h h_begin_of (hr.mono (by decide)) (pa_cons (pv 0) (pa_cons (pe_op op_add (pv 1) pe_int) pa_nil))) (nomark _)))), ?_⟩
  refine ⟨_, rfl, _, rfl, v, e, p, t, rfl, hv, g, ?_⟩
  exact ⟨_, rfl, _, rfl, _, _, rfl, rfl, v, e, p, t + 1, rfl, hv, g, _, _, rfl, rfl, q⟩
end
end Ts
namespace Ts
open PySem PySem.Spec PyProof.Rows L2
section
variable {P : Program} {w : World} {K : PySem.W.Frag} {mg : Str → Option Value} {base : Heap}
theorem has_group_of (D : DefAt K mg "group_border_of" s_group_border_of) (h_begin_of : Has P w K mg base 1 "begin_of" ["share", "turn"] (spOf K fun e p t => .int (begI e p t))) (h_border_of : Has P w K mg base 2 "border_of" ["share", "turn"] (spOf K fun e p t => .int (borI e p t)))
    (h_overlaps_of : Has P w K mg base 3 "overlaps_of" ["share", "turn"] (spOf K fun e p t => .bl (overI e p t))) : Has P w K mg base 4 "group_border_of" ["share", "turn"] (spOf K fun e p t => .int (gborI e p t)) := by
  refine D.has (fun _ _ _ _ _ _ us hl => match us, hl with | [_, _], _ => rfl) fun f fd F => F.ok sc_group_border_of (fun vs H Q E h => ?_) (fun cdv A outer s H vs Q E hr h => ?_)
  · obtain ⟨v, e, p, t, rfl, _⟩ := h; rfl
  obtain ⟨v, e, p, t, rfl, hv, g, q⟩ := h
  have q : Q (V.int (gborI e p t)) H := q
  obtain ⟨g1, g2, g3, g4⟩ := id g
  obtain ⟨a, rfl, hS⟩ := part_at hv
  refine ⟨_, (pss_cons (ps_asg (pv 0) (pg_tup rfl (pgs_cons (pg_name (i := 2) sc_group_border_of.nd rfl (.inl rfl)) (pgs_cons (pg_name (i := 3) sc_group_border_of.nd rfl (.inl rfl)) pgs_nil))))
      (pss_cons (ps_if (pt_cmpR op_lt (pe_op op_mul pe_int (pv 2)) (pv 3) (nomark _)) (pss_one (ps_ret pe_int)) pss_nil)
      (pss_cons (ps_while PassesOwn.never (pt_val (pe_h h_overlaps_of (hr.mono (by decide)) (pa_cons (pv 0) (pa_cons (pv 1) pa_nil)))) (pss_cons (ps_aug (i := 1) sc_group_border_of.nd rfl (.inl rfl) pe_int ip_add)
      (pss_one (ps_if (pt_cmpR op_eq (pe_op op_sub (pe_h h_border_of (hr.mono (by decide)) (pa_cons (pv 0) (pa_cons (pv 1) pa_nil))) (pe_h h_begin_of (hr.mono (by decide)) (pa_cons (pv 0) (pa_cons (pv 1) pa_nil)))) pe_int (nomark _)) (pss_one (ps_ret (pe_op op_sub (pe_h h_border_of (hr.mono (by decide)) (pa_cons (pv 0) (pa_cons (pv 1) pa_nil))) pe_int))) pss_nil))))
      (pss_one (ps_ret (pe_h h_border_of (hr.mono (by decide)) (pa_cons (pv 0) (pa_cons (pv 1) pa_nil)))))))), ?_⟩
  refine ⟨_, rfl, a, _, rfl, hS, rfl, _, _, rfl, _, _, rfl, rfl, ?_⟩
  refine ⟨_, rfl, _, _, rfl, rfl, .inl ⟨by omega, by omega⟩, _, rfl, _, _, rfl, rfl, _, rfl, ite2 (fun c => ?_) (fun c => ?_)⟩
  · have e0 : gborI e p t = 0 := if_pos (of_decide_eq_true c)
    show Q (V.int 0) _
    rw [e0] at q; exact q
  have e0 : gborI e p t = grp e p 16 t := if_neg fun z => c (decide_eq_true z)
  rw [e0] at q
  refine ⟨fun n σ H2 => H2 = H ∧ ∃ u : Int, grp e p n u = grp e p 16 t ∧ ((-u) % (e : Int)).toNat ≤ n ∧ σ = [some (.ref a), some (.int u), some (.int (e : Int)), some (.int (p : Int))], ⟨16, rfl, t, rfl, ?_, rfl⟩, ?_⟩
  · have := Int.emod_lt_of_pos (-t) (show (0 : Int) < e by omega)
    omega
  rintro n σ H2 ⟨rfl, u, hu, hn, rfl⟩
  refine ⟨_, rfl, _, rfl, .ref a, e, p, u, rfl, hv, g, ?_⟩
  refine ⟨_, rfl, ite2 (fun c => ?_) (fun c => ?_)⟩
  · have c' : overI e p u = true := c
    have hm : u % (e : Int) ≠ 0 := fun z => by rw [over_round g1 z] at c'; cases c'
    have hx := neg_mod_next g1 hm
    cases n with
    | zero => omega
    | succ n =>
      unfold grp at hu
      rw [if_pos c'] at hu
      refine ⟨fun σ' H3 => H3 = H2 ∧ grp e p n (u + 1) = grp e p 16 t ∧ σ' = [some (.ref a), some (.int (u + 1)), some (.int (e : Int)), some (.int (p : Int))], fun σ' H3 hN => ?_, ?_⟩
      · obtain ⟨rfl, hg, rfl⟩ := hN
        exact ⟨n, Nat.lt_succ_self _, rfl, u + 1, hg, by omega, rfl⟩
      refine ⟨_, rfl, _, _, rfl, rfl, ?_⟩
      refine ⟨_, rfl, _, rfl, .ref a, e, p, u + 1, rfl, hv, g, _, rfl, _, rfl, .ref a, e, p, u + 1, rfl, hv, g, _, _, rfl, rfl, rfl, _, rfl, ite2 (fun d => ?_) (fun d => ?_)⟩
      · have d' : borI e p (u + 1) - begI e p (u + 1) = 3 := V.int.inj (of_decide_eq_true d)
        rw [if_pos d'] at hu
        refine ⟨_, rfl, _, rfl, .ref a, e, p, u + 1, rfl, hv, g, _, _, rfl, rfl, ?_⟩
        show Q (V.int (borI e p (u + 1) - 1)) _
        rw [hu]; exact q
      · have d' : ¬ borI e p (u + 1) - begI e p (u + 1) = 3 := fun z => d (decide_eq_true (congrArg V.int z))
        rw [if_neg d'] at hu
        exact ⟨rfl, hu, rfl⟩
  · have c' : ¬ overI e p u = true := c
    have e1 : grp e p n u = borI e p u := by
      cases n with
      | zero => rfl
      | succ n => unfold grp; rw [if_neg c']
    refine ⟨_, rfl, _, rfl, .ref a, e, p, u, rfl, hv, g, ?_⟩
    show Q (V.int (borI e p u)) _
    rw [← e1, hu]; exact q
end
end Ts
namespace Ts
open PySem PySem.Spec PyProof.Rows L2 L2H LamX
section
variable {P : Program} {w : World} {K : PySem.W.Frag} {mg : Str → Option Value} {base : Heap}
theorem has_is_number_fromA (D : DefAt K mg "is_number_from" s_is_number_from) (B : Blt0 mg) : Has P w K mg base 1 "is_number_from" ["value", "low"] (spIsNumberFromA K) := by
  refine D.has (fun _ _ _ _ _ _ us hl => match us, hl with | [_, _], _ => rfl) fun f fd F => F.ok sc_is_number_from (fun vs H Q E h => ?_) (fun cdv A outer s H vs Q E hr h => ?_)
  · obtain ⟨v, lo, o, rfl, _⟩ := h; rfl
  obtain ⟨v, lo, o, rfl, hv, q⟩ := h
  refine ⟨_, (pss_one (ps_ret (pe_and (pe_callB call_isi (by rfl) B.zisinstance (by decide +kernel) (pa_cons (pv 0) (pa_cons (pe_ty "int" B.zint) pa_nil))) (pe_and (pe_not (pe_callB call_isi (by rfl) B.zisinstance (by decide +kernel) (pa_cons (pv 0) (pa_cons (pe_ty "bool" B.zbool) pa_nil)))) (pe_one (pe_cmpR op_le (pv 1) (pv 0) (nomark _))))))), ?_⟩
  cases o with
  | some i =>
    cases hv
    refine ⟨_, rfl, _, _, _, _, _, rfl, .ty "int", .base (.int i), kit_ty (r := true) (by decide +kernel), true, rfl, ?_⟩
    refine iteT ⟨_, rfl, _, _, _, _, _, rfl, .ty "bool", .base (.int i), kit_ty (r := false) (by decide +kernel), false, rfl, true, rfl, ?_⟩
    exact iteT ⟨_, rfl, _, rfl, _, _, rfl, rfl, q⟩
  | none =>
    obtain ⟨T, hT, ht⟩ := hv
    by_cases tb : T = "bool"
    · subst tb
      refine ⟨_, rfl, _, _, _, _, _, rfl, .ty "int", ht, kit_ty (r := true) (by decide +kernel), true, rfl, ?_⟩
      exact iteT ⟨_, rfl, _, _, _, _, _, rfl, .ty "bool", ht, kit_ty (r := true) (by decide +kernel), true, rfl, false, rfl, iteF q⟩
    · have k : PySem.W.kitOne K (.type T) (.type "int") = some false := by
        have go : ∀ T ∈ ["bool", "str", "NoneType", "list", "tuple", "dict"], T ≠ "bool" → kitB T "int" = some false := by decide +kernel
        exact kit_ty (go T hT tb)
      exact ⟨_, rfl, _, _, _, _, _, rfl, .ty "int", ht, k, false, rfl, iteF q⟩
theorem has_is_numberA (D : DefAt K mg "is_number" s_is_number) (B : Blt0 mg) (h_is_number_from : Has P w K mg base 1 "is_number_from" ["value", "low"] (spIsNumberFromA K)) : Has P w K mg base 2 "is_number" ["value", "low", "high"] (spIsNumberA K) := by
  refine D.has (fun _ _ _ _ _ _ us hl => match us, hl with | [_, _, _], _ => rfl) fun f fd F => F.ok sc_is_number (fun vs H Q E h => ?_) (fun cdv A outer s H vs Q E hr h => ?_)
  · obtain ⟨v, lo, hi, o, rfl, _⟩ := h; rfl
  obtain ⟨v, lo, hi, o, rfl, hv, q⟩ := h
  refine ⟨_, (pss_one (ps_ret (pe_and (pe_h h_is_number_from (hr.mono (by decide)) (pa_cons (pv 0) (pa_cons (pv 1) pa_nil))) (pe_one (pe_cmpR op_le (pv 0) (pv 2) (nomark _)))))), ?_⟩
  refine ⟨_, rfl, _, rfl, v, lo, o, rfl, hv, ?_⟩
  cases o with
  | none => exact ⟨false, rfl, iteF q⟩
  | some i =>
    cases hv
    refine ⟨decide (lo ≤ i), rfl, ite2 (fun c => ?_) (fun c => ?_)⟩
    · refine ⟨_, rfl, _, rfl, _, _, rfl, rfl, ?_⟩
      have e : decide (i ≤ hi) = inRg (some i) lo hi := by
        have := of_decide_eq_true c
        show decide (i ≤ hi) = decide (lo ≤ i ∧ i ≤ hi)
        by_cases z : i ≤ hi <;> simp [z, this]
      rw [← e] at q
      exact q
    · have e : inRg (some i) lo hi = false := decide_eq_false fun z => c (decide_eq_true z.1)
      rw [e] at q; exact q
theorem hx_check_number {C : Addr} (D : DefAt K mg "check_number" s_check_number) (T_InvalidNumber : ErrB P w K mg base "InvalidNumber" C "given") (h_is_number : Has P w K mg base 2 "is_number" ["value", "low", "high"] (spIsNumberA K)) : HasX P w K mg base 3 "check_number" ["number", "low", "high"] (spCheckNumberX K C) := by
  refine D.hasX (fun _ _ _ _ _ _ us hl => match us, hl with | [_, _, _], _ => rfl) fun f fd F => F.okX sc_check_number (fun vs H Q E h => ?_) (fun cdv A outer s H vs Q E hr h => ?_)
  · obtain ⟨v, lo, hi, o, rfl, _⟩ := h; rfl
  obtain ⟨v, lo, hi, o, rfl, hv, q1, q2⟩ := h
  have tk := takes_of (X := cxOf (L2.CX P w) P w K mg base ["number", "low", "high"] "check_number" (defScope s_check_number) f cdv A outer s H E) (E := E) rfl rfl rfl rfl
  refine ⟨_, (pss_one (ps_if (pt_not (pt_val (pe_h h_is_number (hr.mono (by decide)) (pa_cons (pv 0) (pa_cons (pv 1) (pa_cons (pv 2) pa_nil)))))) (pss_one (ps_raise rfl tk (pmk_errB T_InvalidNumber (hr.mono (by decide)) (pv 0)))) pss_nil)), ?_⟩
  refine ⟨_, rfl, _, rfl, _, rfl, v, lo, hi, o, rfl, hv, _, rfl, ?_⟩
  cases e : inRg o lo hi with
  | true => exact iteF (q1 e)
  | false => exact iteT ⟨_, rfl, mk_err fun d hd => q2 e H d (fun _ _ z => z) hd⟩
end
end Ts
namespace Ts
open PySem PySem.Spec PyProof.Rows L2 L2H LamX
section
variable {P : Program} {w : World} {K : PySem.W.Frag} {mg : Str → Option Value} {base : Heap}
theorem hx_check_lot {C CL : Addr} (D : DefAt K mg "check_lot" s_check_lot) (B : Blt mg) (T : LotC K mg C) (I : LotI K C) (Z : LotNo K C) (T_NotALot : ErrB P w K mg base "NotALot" CL "given") : HasX P w K mg base 3 "check_lot" ["lot"] (spCheckLotX K C CL) := by
  refine D.hasX (fun _ _ _ _ _ _ us hl => match us, hl with | [_], _ => rfl) fun f fd F => F.okX sc_check_lot (fun vs H Q E h => ?_) (fun cdv A outer s H vs Q E hr h => ?_)
  · obtain ⟨v, o, rfl, _⟩ := h; rfl
  obtain ⟨v, o, rfl, hv, q1, q2⟩ := h
  have tk := takes_of (X := cxOf (L2.CX P w) P w K mg base ["lot"] "check_lot" (defScope s_check_lot) f cdv A outer s H E) (E := E) rfl rfl rfl rfl
  refine ⟨_, (pss_one (ps_if (pt_not (pt_val (pe_callB call_isi (by rfl) B.zisinstance (by decide +kernel) (pa_cons (pv 0) (pa_cons (pe_gref T.mgC) pa_nil))))) (pss_one (ps_raise rfl tk (pmk_errB T_NotALot (hr.mono (by decide)) (pv 0)))) pss_nil)), ?_⟩
  cases o with
  | some p =>
    obtain ⟨a, rfl, L⟩ := hv
    obtain ⟨dx, pn, ps, pt, ha, h1, h2, h3⟩ := L.ex
    exact ⟨_, rfl, _, _, _, _, _, rfl, .own C, .base (.ins ha T.cl I.ha I.hn I.htk I.hm), kit_self, true, rfl, iteF (q1 rfl)⟩
  | none =>
    obtain ⟨T9, hT, ht⟩ := hv
    exact ⟨_, rfl, _, _, _, _, _, rfl, .own C, ht, Z.no _ hT, false, rfl, iteT ⟨_, rfl, mk_err fun d hd => q2 rfl H d (fun _ _ z => z) hd⟩⟩
end
end Ts
namespace Ts
open PySem PySem.Spec PyProof.Rows L2
section
variable {P : Program} {w : World} {K : PySem.W.Frag} {mg : Str → Option Value} {base : Heap}
theorem has_rank0 (D : DefAt K mg "_rank_by_nearest" s__rank_by_nearest) (h_border_of : Has P w K mg base 2 "border_of" ["share", "turn"] (spOf K fun e p t => .int (borI e p t))) : Has P w K mg base 5 "_rank_by_nearest" ["share", "turn", "moment", "_"] (spRankF K 0) := by
  refine D.has (fun _ _ _ _ _ _ us hl => match us, hl with | [_, _, _, _], _ => rfl) fun f fd F => F.ok sc__rank_by_nearest (fun vs H Q E h => ?_) (fun cdv A outer s H vs Q E hr h => ?_)
  · obtain ⟨v, e, p, span, t, m, rfl, _⟩ := h; rfl
  obtain ⟨v, e, p, span, t, m, rfl, hv, g, hsp, q⟩ := h
  refine ⟨_, (pss_one (ps_ret (pe_tup (pa_cons (pe_op op_sub (pe_h h_border_of (hr.mono (by decide)) (pa_cons (pv 0) (pa_cons (pv 1) pa_nil))) (pv 2)) pa_nil)))), ?_⟩
  exact ⟨_, rfl, _, rfl, v, e, p, t, rfl, hv, g, _, rfl, _, _, rfl, rfl, by show 1 ≤ sizeLine; decide, fun a ha => q a _ ha (same_new ha) upd_same⟩
theorem has_rank1 (D : DefAt K mg "_rank_by_overlap" s__rank_by_overlap) (h_border_of : Has P w K mg base 2 "border_of" ["share", "turn"] (spOf K fun e p t => .int (borI e p t))) (h_overlaps_of : Has P w K mg base 3 "overlaps_of" ["share", "turn"] (spOf K fun e p t => .bl (overI e p t))) : Has P w K mg base 5 "_rank_by_overlap" ["share", "turn", "moment", "_"] (spRankF K 1) := by
  refine D.has (fun _ _ _ _ _ _ us hl => match us, hl with | [_, _, _, _], _ => rfl) fun f fd F => F.ok sc__rank_by_overlap (fun vs H Q E h => ?_) (fun cdv A outer s H vs Q E hr h => ?_)
  · obtain ⟨v, e, p, span, t, m, rfl, _⟩ := h; rfl
  obtain ⟨v, e, p, span, t, m, rfl, hv, g, hsp, q⟩ := h
  refine ⟨_, (pss_one (ps_ret (pe_tup (pa_cons (pe_op op_sub (pe_h h_border_of (hr.mono (by decide)) (pa_cons (pv 0) (pa_cons (pv 1) pa_nil))) (pv 2)) (pa_cons (pe_ifExp (pt_val (pe_h h_overlaps_of (hr.mono (by decide)) (pa_cons (pv 0) (pa_cons (pv 1) pa_nil)))) pe_int pe_int) pa_nil))))), ?_⟩
  refine ⟨_, rfl, _, rfl, v, e, p, t, rfl, hv, g, _, rfl, _, _, rfl, rfl, _, rfl, _, rfl, v, e, p, t, rfl, hv, g, _, rfl, ?_⟩
  refine ite2 (fun c => ?_) (fun c => ?_)
  · have e1 : rankI 1 e p span t m = [borI e p t - m, 0] := by show [_, if _ then _ else _] = _; rw [if_pos c]
    exact ⟨by show 2 ≤ sizeLine; decide, fun a ha => q a _ ha (same_new ha) (by rw [upd_same, e1]; rfl)⟩
  · have e1 : rankI 1 e p span t m = [borI e p t - m, 1] := by show [_, if _ then _ else _] = _; rw [if_neg c]
    exact ⟨by show 2 ≤ sizeLine; decide, fun a ha => q a _ ha (same_new ha) (by rw [upd_same, e1]; rfl)⟩
theorem has_rank2 (D : DefAt K mg "_rank_by_keen" s__rank_by_keen) (h_border_of : Has P w K mg base 2 "border_of" ["share", "turn"] (spOf K fun e p t => .int (borI e p t))) (h_overlaps_of : Has P w K mg base 3 "overlaps_of" ["share", "turn"] (spOf K fun e p t => .bl (overI e p t))) (h_group_border_of : Has P w K mg base 4 "group_border_of" ["share", "turn"] (spOf K fun e p t => .int (gborI e p t))) : Has P w K mg base 5 "_rank_by_keen" ["share", "turn", "moment", "_"] (spRankF K 2) := by
  refine D.has (fun _ _ _ _ _ _ us hl => match us, hl with | [_, _, _, _], _ => rfl) fun f fd F => F.ok sc__rank_by_keen (fun vs H Q E h => ?_) (fun cdv A outer s H vs Q E hr h => ?_)
  · obtain ⟨v, e, p, span, t, m, rfl, _⟩ := h; rfl
  obtain ⟨v, e, p, span, t, m, rfl, hv, g, hsp, q⟩ := h
  refine ⟨_, (pss_cons (ps_set (i := 4) sc__rank_by_keen.nd rfl (.inl rfl) (pe_op op_sub (pe_h h_border_of (hr.mono (by decide)) (pa_cons (pv 0) (pa_cons (pv 1) pa_nil))) (pv 2)))
      (pss_cons (ps_set (i := 5) sc__rank_by_keen.nd rfl (.inl rfl) (pe_h h_group_border_of (hr.mono (by decide)) (pa_cons (pv 0) (pa_cons (pv 1) pa_nil))))
      (pss_cons (ps_if (pt_not (pt_val (pe_h h_overlaps_of (hr.mono (by decide)) (pa_cons (pv 0) (pa_cons (pv 1) pa_nil))))) (pss_one (ps_ret (pe_tup (pa_cons (pv 4) (pa_cons pe_int (pa_cons pe_int pa_nil)))))) pss_nil)
      (pss_one (ps_ret (pe_tup (pa_cons (pv 4) (pa_cons pe_int (pa_cons (pe_ifExp (pt_cmpR op_gt (pv 5) pe_int (nomark _)) (pe_op op_sub (pv 2) (pv 5)) pe_int) pa_nil))))))))), ?_⟩
  refine ⟨_, rfl, _, rfl, v, e, p, t, rfl, hv, g, _, rfl, _, _, rfl, rfl, ?_⟩
  refine ⟨_, rfl, _, rfl, v, e, p, t, rfl, hv, g, ?_⟩
  refine ⟨_, rfl, _, rfl, v, e, p, t, rfl, hv, g, _, rfl, ?_⟩
  cases c : overI e p t with
  | false =>
    have e1 : rankI 2 e p span t m = [borI e p t - m, 1, 0] := by
      show (if _ then _ else _) = _
      rw [if_neg (by rw [c]; decide)]
    exact iteT ⟨_, rfl, by show 3 ≤ sizeLine; decide, fun a ha => q a _ ha (same_new ha) (by rw [upd_same, e1]; rfl)⟩
  | true =>
    refine iteF ⟨_, rfl, _, rfl, _, _, rfl, rfl, _, rfl, ite2 (fun d => ?_) (fun d => ?_)⟩
    · have d' : 0 < gborI e p t := of_decide_eq_true d
      have e1 : rankI 2 e p span t m = [borI e p t - m, 0, m - gborI e p t] := by
        show (if _ then [_, _, if _ then _ else _] else _) = _
        rw [if_pos c, if_pos d']
      exact ⟨_, rfl, _, rfl, _, _, rfl, rfl, by show 3 ≤ sizeLine; decide, fun a ha => q a _ ha (same_new ha) (by rw [upd_same, e1]; rfl)⟩
    · have d' : ¬ 0 < gborI e p t := fun z => d (decide_eq_true z)
      have e1 : rankI 2 e p span t m = [borI e p t - m, 0, 0] := by
        show (if _ then [_, _, if _ then _ else _] else _) = _
        rw [if_pos c, if_neg d']
      exact ⟨by show 3 ≤ sizeLine; decide, fun a ha => q a _ ha (same_new ha) (by rw [upd_same, e1]; rfl)⟩
theorem has_rank3 (D : DefAt K mg "_rank_by_behind" s__rank_by_behind) : Has P w K mg base 5 "_rank_by_behind" ["share", "turn", "moment", "span"] (spRankF K 3) := by
  refine D.has (fun _ _ _ _ _ _ us hl => match us, hl with | [_, _, _, _], _ => rfl) fun f fd F => F.ok sc__rank_by_behind (fun vs H Q E h => ?_) (fun cdv A outer s H vs Q E hr h => ?_)
  · obtain ⟨v, e, p, span, t, m, rfl, _⟩ := h; rfl
  obtain ⟨v, e, p, span, t, m, rfl, hv, g, hsp, q⟩ := h
  refine ⟨_, (pss_cons (ps_asg (pv 0) (pg_tup rfl (pgs_cons (pg_name (i := 4) sc__rank_by_behind.nd rfl (.inl rfl)) (pgs_cons (pg_name (i := 5) sc__rank_by_behind.nd rfl (.inl rfl)) pgs_nil))))
      (pss_one (ps_ret (pe_tup (pa_cons (pe_op op_sub (pe_op op_mul (pe_op op_sub (pv 1) pe_int) (pv 3)) (pe_op op_mul (pe_op op_mul (pe_op op_add (pv 2) pe_int) (pv 4)) (pe_op op_fdiv (pv 3) (pv 5)))) pa_nil))))), ?_⟩
  obtain ⟨a, rfl, hS⟩ := part_at hv
  obtain ⟨g1, g2, g3, g4⟩ := g
  refine ⟨_, rfl, a, _, rfl, hS, rfl, _, _, rfl, _, _, rfl, rfl, ?_⟩
  have hd : span / p ≤ 1000000 := Nat.le_trans (Nat.div_le_self _ _) hsp
  have hz : 0 ≤ (span : Int) / (p : Int) ∧ (span : Int) / (p : Int) ≤ 1000000 := ⟨Int.ediv_nonneg (by omega) (by omega), Int.le_trans (Int.ediv_le_self _ (by omega)) (by omega)⟩
  obtain ⟨hz1, hz2⟩ := hz
  refine ⟨_, rfl, _, _, rfl, rfl, _, rfl, _, _, rfl, rfl, .inr ⟨by omega, by omega⟩, _, rfl, _, _, rfl, rfl, _, rfl, _, _, rfl, rfl, .inr ⟨by omega, by omega⟩, _, rfl, _, rfl, _, _, rfl, rfl, ⟨by omega, by omega⟩, _, _, rfl, rfl, .inr ⟨by omega, by omega⟩, _, _, rfl, rfl, by show 1 ≤ sizeLine; decide, fun b hb => q b _ hb (same_new hb) upd_same⟩
theorem has_ranks_of {AR f0 f1 f2 f3 : Addr} (D : DefAt K mg "_ranks_of" s__ranks_of) (B : Blt0 mg) (gR : mg "RANKINGS" = some (.ref AR)) (d0 : KDct K w AR "nearest" (.ref f0)) (d1 : KDct K w AR "overlap" (.ref f1)) (d2 : KDct K w AR "keen" (.ref f2)) (d3 : KDct K w AR "behind" (.ref f3))
    (n01 : f0 ≠ f1) (n02 : f0 ≠ f2) (n03 : f0 ≠ f3) (n12 : f1 ≠ f2) (n13 : f1 ≠ f3) (n23 : f2 ≠ f3) (k0 : Held P w K mg base 5 f0 (spRankF K 0)) (k1 : Held P w K mg base 5 f1 (spRankF K 1)) (k2 : Held P w K mg base 5 f2 (spRankF K 2)) (k3 : Held P w K mg base 5 f3 (spRankF K 3))
    (h_begin_of : Has P w K mg base 1 "begin_of" ["share", "turn"] (spOf K fun e p t => .int (begI e p t))) (h_border_of : Has P w K mg base 2 "border_of" ["share", "turn"] (spOf K fun e p t => .int (borI e p t))) : Has P w K mg base 6 "_ranks_of" ["share", "rule", "span", "turn"] (spRanksOf K) := by
  refine D.has (fun _ _ _ _ _ _ us hl => match us, hl with | [_, _, _, _], _ => rfl) fun f fd F => F.ok sc__ranks_of (fun vs H Q E h => ?_) (fun cdv A outer s H vs Q E hr h => ?_)
  · obtain ⟨v, r, e, p, span, i, x, rfl, _⟩ := h; rfl
  obtain ⟨v, r, e, p, span, i, x, rfl, hx, hv, g, hi, hsp, q⟩ := h
  have HS : ∀ f sp, (fun f : Addr => if f = f0 then some (spRankF K 0) else if f = f1 then some (spRankF K 1) else if f = f2 then some (spRankF K 2) else if f = f3 then some (spRankF K 3) else none) f = some sp → Held P w K mg base 5 f sp := fun f sp e => by
    dsimp only at e
    split at e
    · rename_i z; cases e; rw [z]; exact k0
    split at e
    · rename_i z; cases e; rw [z]; exact k1
    split at e
    · rename_i z; cases e; rw [z]; exact k2
    split at e
    · rename_i z; cases e; rw [z]; exact k3
    · cases e
  have pick : ∃ fr, KDct K w AR x (.ref fr) ∧ (fun f : Addr => if f = f0 then some (spRankF K 0) else if f = f1 then some (spRankF K 1) else if f = f2 then some (spRankF K 2) else if f = f3 then some (spRankF K 3) else none) fr = some (spRankF K r) := by
    match r, hx with
    | 0, hx => cases hx; exact ⟨f0, d0, if_pos rfl⟩
    | 1, hx => cases hx; exact ⟨f1, d1, by dsimp only; rw [if_neg n01.symm, if_pos rfl]⟩
    | 2, hx => cases hx; exact ⟨f2, d2, by dsimp only; rw [if_neg n02.symm, if_neg n12.symm, if_pos rfl]⟩
    | 3, hx => cases hx; exact ⟨f3, d3, by dsimp only; rw [if_neg n03.symm, if_neg n13.symm, if_neg n23.symm, if_pos rfl]⟩
    | _ + 4, hx => cases hx
  obtain ⟨fr, dr, hS⟩ := pick
  refine ⟨_, (pss_cons (ps_set (i := 4) sc__ranks_of.nd rfl (.inr rfl) (pe_ix ix_kdict (pe_gref gR) (pv 1) (fun _ _ => rfl)))
      (pss_one (ps_ret (pe_lc (own := [("moment", 5)]) rfl sc__ranks_of.nd (pi_range2 (by rfl) B.zrange (pa_cons (pe_h h_begin_of (hr.mono (by decide)) (pa_cons (pv 0) (pa_cons (pv 3) pa_nil))) (pa_cons (pe_h h_border_of (hr.mono (by decide)) (pa_cons (pv 0) (pa_cons (pv 3) pa_nil))) pa_nil))) (blkOk_by (N := ["share", "rule", "span", "turn", "ranking", "moment"]) (sc := defScope s__ranks_of) (own := [("moment", 5)]) (by decide +kernel)) (fun _ _ _ _ _ => (pg_name (i := 5) sc__ranks_of.nd rfl (.inl rfl) (.inr rfl))) (fun _ _ _ _ _ => pts_nil) (fun _ _ _ _ _ => (pe_callA (i := 4) HS (hr.mono (by decide)) (by rfl) (by first | exact Or.inl rfl | exact Or.inr (Or.inl rfl) | exact Or.inr (Or.inr rfl)) (pa_cons (pv 0) (pa_cons (pv 3) (pa_cons (pv 5) (pa_cons (pv 2) pa_nil)))))))))), ?_⟩
  refine ⟨_, rfl, AR, x, _, rfl, rfl, dr, ?_⟩
  obtain ⟨g1, g2, g3, g4⟩ := id g
  have t1 : (1 : Int) ≤ (i : Int) + 1 := by omega
  have bb := begI_fine (t := (i : Int) + 1) g t1 (by omega)
  have bo := borI_fine (t := (i : Int) + 1) g t1 (by omega)
  have small : begI e p ((i : Int) + 1) ≤ 1000 ∧ borI e p ((i : Int) + 1) ≤ 1000 := by
    constructor
    · unfold begI
      refine Int.ediv_le_of_le_mul (by omega) ?_
      have h1 : ((i : Int) + 1 - 1) * (p : Int) ≤ 16 * 16 := Int.mul_le_mul (by omega) (by omega) (by omega) (by omega)
      have h2 : (1000 : Int) * 1 ≤ 1000 * (e : Int) := Int.mul_le_mul_of_nonneg_left (by omega) (by omega)
      omega
    · unfold borI
      refine Int.ediv_le_of_le_mul (by omega) ?_
      have h1 : ((i : Int) + 1) * (p : Int) ≤ 16 * 16 := Int.mul_le_mul (by omega) (by omega) (by omega) (by omega)
      have h2 : (1000 : Int) * 1 ≤ 1000 * (e : Int) := Int.mul_le_mul_of_nonneg_left (by omega) (by omega)
      omega
  obtain ⟨sm1, sm2⟩ := small
  refine ⟨_, rfl, _, rfl, v, e, p, (i : Int) + 1, rfl, hv, g, _, rfl, _, rfl, v, e, p, (i : Int) + 1, rfl, hv, g, _, _, rfl, ⟨by omega, by omega, by omega, by omega⟩, fun pl hpl => ?_⟩
  refine lc_range (lo := begI e p ((i : Int) + 1)) (n := (borI e p ((i : Int) + 1) - begI e p ((i : Int) + 1)).toNat) (fun k Hm => Same H Hm ∧ ∃ us, Hm pl = some (.lst us) ∧ us.length = k ∧ DpAll K (hid pl Hm) us (((ticksL r e p span i).take k).map rowD)) ⟨same_new hpl, [], upd_same, rfl, by rw [List.take_zero]; exact .nil⟩ ?_ ?_
  · rintro k Hm hk ⟨sm, us, em, lu, D⟩
    refine ⟨rfl, fr, spRankF K r, rfl, hS, _, rfl, _, rfl, _, rfl, _, rfl, v, e, p, span, (i : Int) + 1, begI e p ((i : Int) + 1) + (k : Int), rfl, hv.mono sm, g, hsp, fun a H2 ha s2 e2 => ?_⟩
    have na : a ≠ pl := fun z => by rw [z, em] at ha; cases ha
    have ek : (ticksL r e p span i)[k]? = some (rankI r e p span ((i : Int) + 1) (begI e p ((i : Int) + 1) + (k : Int))) := by
      unfold ticksL
      rw [List.getElem?_map, List.getElem?_range hk]; rfl
    refine ⟨us, s2 _ _ em, small1000 (by omega), Same.app hpl (sm.trans s2), us ++ [.ref a], upd_same, by rw [List.length_append, lu]; rfl, ?_⟩
    rw [map_take_succ _ ek]
    refine ((D.mono (hid_same (b := pl) s2)).mono hid_put).snoc ?_
    exact .tup (SqT.of (hid_put _ _ ((hid_ne na).trans e2))) (DpAll.ints _)
  rintro Hm ⟨sm, us, em, lu, D⟩
  have ln : (ticksL r e p span i).length = (borI e p ((i : Int) + 1) - begI e p ((i : Int) + 1)).toNat := by unfold ticksL; rw [List.length_map, List.length_range]
  rw [← ln, List.take_length] at D
  exact q pl us Hm hpl sm em D
theorem ok_initP {C f : Addr} {fd : FuncData} (F : Fun K "__init__" "Pace.__init__" s_Pace___init__ f fd) (B : Blt0 mg) (PC : PaceC K mg C) (h_begin_of : Has P w K mg base 1 "begin_of" ["share", "turn"] (spOf K fun e p t => .int (begI e p t))) (h_border_of : Has P w K mg base 2 "border_of" ["share", "turn"] (spOf K fun e p t => .int (borI e p t))) (h__ranks_of : Has P w K mg base 6 "_ranks_of" ["share", "rule", "span", "turn"] (spRanksOf K)) : FnOk P w K mg base CX0 7 f fd ["self", "share", "rule", "span"] (spInitP K C) := by
  refine F.ok sc_Pace___init__ (fun vs H Q E h => ?_) (fun cdv A outer s H vs Q E hr h => ?_)
  · obtain ⟨a, dx, v, x, r, e, p, span, rfl, _⟩ := h; rfl
  obtain ⟨a, dx, v, x, r, e, p, span, rfl, ha, hx, hv, g, hsp, q⟩ := h
  refine ⟨_, (pss_cons (ps_set (i := 4) sc_Pace___init__.nd rfl (.inl rfl) (pe_callTy cr_range2 (by rfl) B.zrange (by decide +kernel) (pa_cons pe_int (pa_cons (pe_op op_add (pe_ix ix_tup (pv 1) pe_int (fun _ _ => rfl)) pe_int) pa_nil))))
      (pss_cons (ps_fld (pv 0) (pe_lc (own := [("turn", 5)]) rfl sc_Pace___init__.nd (pi_rgV (pv 4)) (blkOk_by (N := ["self", "share", "rule", "span", "turns", "turn"]) (sc := defScope s_Pace___init__) (own := [("turn", 5)]) (by decide +kernel)) (fun _ _ _ _ _ => (pg_name (i := 5) sc_Pace___init__.nd rfl (.inl rfl) (.inr rfl))) (fun _ _ _ _ _ => pts_nil) (fun _ _ _ _ _ => (pe_op op_sub (pe_h h_border_of (hr.mono (by decide)) (pa_cons (pv 1) (pa_cons (pv 5) pa_nil))) (pe_h h_begin_of (hr.mono (by decide)) (pa_cons (pv 1) (pa_cons (pv 5) pa_nil)))))) rfl)
      (pss_cons (ps_fld (pv 0) (pe_lc (own := [("turn", 5)]) rfl sc_Pace___init__.nd (pi_rgV (pv 4)) (blkOk_by (N := ["self", "share", "rule", "span", "turns", "turn"]) (sc := defScope s_Pace___init__) (own := [("turn", 5)]) (by decide +kernel)) (fun _ _ _ _ _ => (pg_name (i := 5) sc_Pace___init__.nd rfl (.inl rfl) (.inr rfl))) (fun _ _ _ _ _ => pts_nil) (fun _ _ _ _ _ => (pe_op op_sub (pe_h h_begin_of (hr.mono (by decide)) (pa_cons (pv 1) (pa_cons (pe_op op_add (pv 5) pe_int) pa_nil))) (pe_h h_begin_of (hr.mono (by decide)) (pa_cons (pv 1) (pa_cons (pv 5) pa_nil)))))) rfl)
      (pss_one (ps_fld (pv 0) (pe_lc (own := [("turn", 5)]) rfl sc_Pace___init__.nd (pi_rgV (pv 4)) (blkOk_by (N := ["self", "share", "rule", "span", "turns", "turn"]) (sc := defScope s_Pace___init__) (own := [("turn", 5)]) (by decide +kernel)) (fun _ _ _ _ _ => (pg_name (i := 5) sc_Pace___init__.nd rfl (.inl rfl) (.inr rfl))) (fun _ _ _ _ _ => pts_nil) (fun _ _ _ _ _ => (pe_h h__ranks_of (hr.mono (by decide)) (pa_cons (pv 1) (pa_cons (pv 2) (pa_cons (pv 3) (pa_cons (pv 5) pa_nil))))))) rfl))))), ?_⟩
  obtain ⟨qv, rfl, hS⟩ := part_at hv
  obtain ⟨g1, g2, g3, g4⟩ := id g
  refine ⟨_, rfl, qv, _, 0, .int (e : Int), rfl, rfl, hS, atI_nat (j := 0) rfl, _, _, rfl, rfl, _, _, rfl, fun pr hpr => ?_⟩
  have s0 : Same H (upd H pr (.rng 1 ((e : Int) + 1))) := same_new hpr
  have er : (upd H pr (.rng 1 ((e : Int) + 1))) pr = some (.rng 1 ((e : Int) + 1)) := upd_same
  revert s0 er
  show Same H (upd H pr (.rng 1 ((e : Int) + 1))) → _ → _
  generalize upd H pr (.rng 1 ((e : Int) + 1)) = H1
  intro s0 er
  have nra : pr ≠ a := fun z => by rw [z] at hpr; rw [hpr] at ha; cases ha
  clear hpr hv
  have bb : But a H H1 := But.of_same s0
  have ha0 := ha
  replace ha := s0 _ _ ha
  replace hS := sameT s0 hS
  dsimp only [List.set]
  have en : ((e : Int) + 1 - 1).toNat = e := by omega
  -- lengths
  refine ⟨_, rfl, pr, _, _, rfl, er, ⟨by omega, by omega, by omega, by omega⟩, fun pl hpl => ?_⟩
  refine lc_range (lo := 1) (n := ((e : Int) + 1 - 1).toNat) (fun k Hm => Same H1 Hm ∧ Hm pl = some (.lst (((lensL e p).take k).map V.int))) ⟨same_new hpl, by rw [List.take_zero]; exact upd_same⟩ ?_ ?_
  · rintro k Hm hk ⟨sm, em⟩
    have hk' : k < e := by omega
    have ek : (lensL e p)[k]? = some (borI e p ((k : Int) + 1) - begI e p ((k : Int) + 1)) := by unfold lensL; rw [List.getElem?_map, List.getElem?_range hk']; rfl
    have ec : (1 : Int) + (k : Int) = (k : Int) + 1 := Int.add_comm _ _
    have hvm : Dp K Hm (.ref qv) (partD e p) := .tup (sameT sm hS) (.cons (.int _) (.cons (.int _) .nil))
    rw [ec]
    refine ⟨rfl, _, rfl, _, rfl, .ref qv, e, p, (k : Int) + 1, rfl, hvm, g, _, rfl, _, rfl, .ref qv, e, p, (k : Int) + 1, rfl, hvm, g, _, _, rfl, rfl, _, em, ?_, Same.app hpl sm, ?_⟩
    · rw [List.length_map, List.length_take]; exact small1000 (by omega)
    · rw [upd_same, List.take_add_one, ek, List.map_append]; rfl
  rintro H2 ⟨s2, e2⟩
  have ll : (lensL e p).length = e := by unfold lensL; rw [List.length_map, List.length_range]
  rw [en] at e2
  rw [List.take_of_length_le (by omega)] at e2
  refine ⟨_, rfl, a, C, dx, _, rfl, s2 _ _ ha, PC.cl, PC.nlengths, by show 0 < 1000; decide, ?_⟩
  have b3 : But a H2 (upd H2 a (.ins C dx (putF "lengths" (.ref pl) []))) := But.set
  have e3 : (upd H2 a (.ins C dx (putF "lengths" (.ref pl) []))) a = some (.ins C dx (putF "lengths" (.ref pl) [])) := upd_same
  have f3 := putF_len "lengths" (.ref pl) ([] : List (Str × V))
  have l3 : (putF "lengths" (.ref pl) ([] : List (Str × V))).lookup ("lengths" : Str) = some (.ref pl) := by rw [lookup_putF, if_pos rfl]
  have z3 : (putF "lengths" (.ref pl) ([] : List (Str × V))).lookup ("place_behind" : Str) = none := by rw [lookup_putF, if_neg (by decide +kernel)]; rfl
  rw [List.length_nil] at f3
  generalize upd H2 a (.ins C dx (putF "lengths" (.ref pl) [])) = H3 at b3 e3 ⊢
  generalize putF "lengths" (.ref pl) ([] : List (Str × V)) = F3 at e3 f3 l3 z3 ⊢
  have npl : pl ≠ a := fun z => by rw [z] at e2; rw [s2 _ _ ha] at e2; cases e2
  replace e2 := b3 _ _ npl e2
  replace er := b3 _ _ nra (s2 _ _ er)
  replace hS := sqt_but (s2 _ _ ha) NoSeq.ins b3 (sameT s2 hS)
  have hl0 : H pl = none := s0.free hpl
  replace bb := (bb.trans' s2).trans b3
  clear s2 hpl b3 ha
  -- gaps
  refine ⟨_, rfl, pr, _, _, rfl, er, ⟨by omega, by omega, by omega, by omega⟩, fun pg hpg => ?_⟩
  refine lc_range (lo := 1) (n := ((e : Int) + 1 - 1).toNat) (fun k Hm => Same H3 Hm ∧ Hm pg = some (.lst (((gapsL e p).take k).map V.int))) ⟨same_new hpg, by rw [List.take_zero]; exact upd_same⟩ ?_ ?_
  · rintro k Hm hk ⟨sm, em⟩
    have hk' : k < e := by omega
    have ek : (gapsL e p)[k]? = some (begI e p ((k : Int) + 1 + 1) - begI e p ((k : Int) + 1)) := by unfold gapsL; rw [List.getElem?_map, List.getElem?_range hk']; rfl
    have ec : (1 : Int) + (k : Int) = (k : Int) + 1 := Int.add_comm _ _
    have hvm : Dp K Hm (.ref qv) (partD e p) := .tup (sameT sm hS) (.cons (.int _) (.cons (.int _) .nil))
    rw [ec]
    refine ⟨rfl, _, rfl, _, rfl, _, _, rfl, rfl, .ref qv, e, p, (k : Int) + 1 + 1, rfl, hvm, g, _, rfl, _, rfl, .ref qv, e, p, (k : Int) + 1, rfl, hvm, g, _, _, rfl, rfl, _, em, ?_, Same.app hpg sm, ?_⟩
    · rw [List.length_map, List.length_take]; exact small1000 (by omega)
    · rw [upd_same, List.take_add_one, ek, List.map_append]; rfl
  rintro H4 ⟨s4, e4⟩
  have lg : (gapsL e p).length = e := by unfold gapsL; rw [List.length_map, List.length_range]
  rw [en] at e4
  rw [List.take_of_length_le (by omega)] at e4
  refine ⟨_, rfl, a, C, dx, _, rfl, s4 _ _ e3, PC.cl, PC.ngaps, by omega, ?_⟩
  have b5 : But a H4 (upd H4 a (.ins C dx (putF "gaps" (.ref pg) F3))) := But.set
  have e5 : (upd H4 a (.ins C dx (putF "gaps" (.ref pg) F3))) a = some (.ins C dx (putF "gaps" (.ref pg) F3)) := upd_same
  have f5 := putF_len "gaps" (.ref pg) F3
  have l5 : (putF "gaps" (.ref pg) F3).lookup ("gaps" : Str) = some (.ref pg) := by rw [lookup_putF, if_pos rfl]
  have m5 : (putF "gaps" (.ref pg) F3).lookup ("lengths" : Str) = some (.ref pl) := by rw [lookup_putF, if_neg (by decide +kernel)]; exact l3
  have z5 : (putF "gaps" (.ref pg) F3).lookup ("place_behind" : Str) = none := by rw [lookup_putF, if_neg (by decide +kernel)]; exact z3
  generalize upd H4 a (.ins C dx (putF "gaps" (.ref pg) F3)) = H5 at b5 e5 ⊢
  generalize putF "gaps" (.ref pg) F3 = F5 at e5 f5 l5 m5 z5 ⊢
  have npg : pg ≠ a := fun z => by rw [z] at e4; rw [s4 _ _ e3] at e4; cases e4
  replace e4 := b5 _ _ npg e4
  replace e2 := b5 _ _ npl (s4 _ _ e2)
  replace er := b5 _ _ nra (s4 _ _ er)
  replace hS := sqt_but (s4 _ _ e3) NoSeq.ins b5 (sameT s4 hS)
  have hg0 : H pg = none := by
    cases q9 : H pg with
    | none => rfl
    | some o9 =>
      have n9 : pg ≠ a := npg
      have := bb _ _ n9 q9
      rw [hpg] at this; cases this
  replace bb := (bb.trans' s4).trans b5
  clear s4 hpg b5 e3 l3 z3
  -- ranks
  refine ⟨_, rfl, pr, _, _, rfl, er, ⟨by omega, by omega, by omega, by omega⟩, fun pk hpk => ?_⟩
  refine lc_range (lo := 1) (n := ((e : Int) + 1 - 1).toNat) (fun k Hm => Same H5 Hm ∧ ∃ us, Hm pk = some (.lst us) ∧ us.length = k ∧ ∀ (b : Addr) (l : List V), H b = some (.lst l) → DpAll K (hid b (hid pk Hm)) us (((List.range e).take k).map fun i : Nat => .list ((ticksL r e p span i).map rowD))) ⟨same_new hpk, [], upd_same, rfl, fun b l _ => by rw [List.take_zero]; exact .nil⟩ ?_ ?_
  · rintro k Hm hk ⟨sm, us, em, lu, D⟩
    have hk' : k < e := by omega
    have ec : (1 : Int) + (k : Int) = (k : Int) + 1 := Int.add_comm _ _
    have hvm : Dp K Hm (.ref qv) (partD e p) := .tup (sameT sm hS) (.cons (.int _) (.cons (.int _) .nil))
    rw [ec]
    refine ⟨rfl, _, rfl, _, rfl, _, rfl, _, rfl, .ref qv, r, e, p, span, k, x, rfl, hx, hvm, g, by omega, hsp, fun c ws H6 hc s6 e6 D6 => ?_⟩
    have nc : c ≠ pk := fun z => by rw [z, em] at hc; cases hc
    have em6 := s6 _ _ em
    have ek : (List.range e)[k]? = some k := List.getElem?_range hk'
    refine ⟨us, em6, small1000 (by omega), Same.app hpk (sm.trans s6), us ++ [.ref c], upd_same, by rw [List.length_append, lu]; rfl, fun b l hb => ?_⟩
    rw [map_take_succ _ ek]
    refine (((D b l hb).mono (hid_same (b := b) (hid_same (b := pk) s6))).mono (hid_same (b := b) hid_put)).snoc ?_
    have nb : b ≠ a := fun z => by rw [z, ha0] at hb; cases hb
    have hb5 := bb _ _ nb hb
    have nbp : b ≠ pk := fun z => by rw [z, hpk] at hb5; cases hb5
    have hb6 := s6 _ _ (sm _ _ hb5)
    have ncb : c ≠ b := fun z => by rw [z, sm _ _ hb5] at hc; cases hc
    have hbp : hid pk H6 b = some (.lst l) := (hid_ne nbp).trans hb6
    refine (show Dp K (hid b (hid pk H6)) (.ref c) (.list ((ticksL r e p span k).map rowD)) from .lst (SqL.of ((hid_ne ncb).trans ((hid_ne nc).trans e6))) (DpAll.imp (H := hid pk H6) (DpAll.imp (H' := hid pk H6) (D6.mono hid_sub) fun d hd => ?_) fun d hd => ?_)).mono (hid_same (b := b) hid_put)
    · obtain ⟨rr, _, rfl⟩ := List.mem_map.mp hd
      exact dp_hideT em6 (tupD_rw rr)
    · obtain ⟨rr, _, rfl⟩ := List.mem_map.mp hd
      exact dp_hideT hbp (tupD_rw rr)
  rintro H6 ⟨s6, us, e6, lu, D⟩
  have D : ∀ (b : Addr) (l : List V), H b = some (.lst l) → DpAll K (hid b (hid pk H6)) us ((List.range e).map fun i : Nat => .list ((ticksL r e p span i).map rowD)) := fun b l hb => by
    have := D b l hb
    rw [en, List.take_of_length_le (by rw [List.length_range]; exact Nat.le_refl _)] at this
    exact this
  refine ⟨_, rfl, a, C, dx, _, rfl, s6 _ _ e5, PC.cl, PC.nranks, by omega, ?_⟩
  have b7 : But a H6 (upd H6 a (.ins C dx (putF "ranks" (.ref pk) F5))) := But.set
  have npk : pk ≠ a := fun z => by rw [z] at e6; rw [s6 _ _ e5] at e6; cases e6
  refine q _ ((bb.trans' s6).trans b7) fun b l hb => ?_
  have nb : b ≠ a := fun z => by rw [z, ha0] at hb; cases hb
  have hb5 := bb _ _ nb hb
  have nbk : pk ≠ b := fun z => by rw [← z, hpk] at hb5; cases hb5
  have nbl : pl ≠ b := fun z => by rw [← z, hl0] at hb; cases hb
  have nbg : pg ≠ b := fun z => by rw [← z, hg0] at hb; cases hb
  have ea : hid b H6 a = some (.ins C dx F5) := (hid_ne nb.symm).trans (s6 _ _ e5)
  refine ⟨dx, _, (hid_ne nb.symm).trans upd_same, ⟨pl, ?_, SqL.of ((hid_ne nbl).trans (b7 _ _ npl (s6 _ _ e2)))⟩, ⟨pg, ?_, SqL.of ((hid_ne nbg).trans (b7 _ _ npg (s6 _ _ e4)))⟩, ⟨.ref pk, ?_, .lst (SqL.of ((hid_ne nbk).trans (b7 _ _ npk e6))) (dpa_but ea NoSeq.ins (but_hidb b7) ((D b l hb).mono (hid_same (b := b) hid_sub)))⟩, ?_⟩
  · rw [lookup_putF, if_neg (by decide +kernel)]; exact m5
  · rw [lookup_putF, if_neg (by decide +kernel)]; exact l5
  · rw [lookup_putF, if_pos rfl]
  · rw [lookup_putF, if_neg (by decide +kernel)]; exact z5
theorem has_paces_of {C CQ : Addr} (D : DefAt K mg "paces_of" s_paces_of) (B : Blt0 mg) (T : LotC K mg C) (PC : PaceC K mg CQ) (p_shares : PropH P w K mg base C "shares" "_shares") (p_span : PropH P w K mg base C "span" "_span") (hPace : HasM P w K mg base 7 CQ ["self", "share", "rule", "span"] (spInitP K CQ)) : Has P w K mg base 9 "paces_of" ["lot", "rule"] (spPacesOf K C CQ) := by
  refine D.has (fun _ _ _ _ _ _ us hl => match us, hl with | [_, _], _ => rfl) fun f fd F => F.ok sc_paces_of (fun vs H Q E h => ?_) (fun cdv A outer s H vs Q E hr h => ?_)
  · obtain ⟨a, n, r, js, x, rfl, _⟩ := h; rfl
  obtain ⟨a, n, r, js, x, rfl, L, G, l6, hsp, hx, q⟩ := h
  refine ⟨_, (pss_one (ps_ret (pe_lc (own := [("share", 2)]) rfl sc_paces_of.nd (pi_tup (pe_ph p_shares T.cl (hr.mono (by decide)) (pv 0))) (blkOk_by (N := ["lot", "rule", "share"]) (sc := defScope s_paces_of) (own := [("share", 2)]) (by decide +kernel)) (fun _ _ _ _ _ => (pg_name (i := 2) sc_paces_of.nd rfl (.inl rfl) (.inr rfl))) (fun _ _ _ _ _ => pts_nil) (fun _ _ _ _ _ => (pe_hm hPace PC.mgC (hr.mono (by decide)) (pa_cons (pv 2) (pa_cons (pv 1) (pa_cons (pe_ph p_span T.cl (hr.mono (by decide)) (pv 0)) pa_nil)))))))), ?_⟩
  obtain ⟨dx, pn, ps, pt, ha, h1, h2, h3⟩ := id L.ex
  obtain ⟨ps2, xs, e, hS, hA⟩ := h2.tuple
  cases e
  have lx : xs.length = js.length := by rw [hA.length]; unfold sharesD; rw [List.length_map]
  refine ⟨_, rfl, lot_get ha lot_shares ⟨ps, rfl, ⟨xs, hS⟩, fun pl hpl => ?_⟩⟩
  refine lc_tup (K := K) (a := ps) (xs := xs) (fun k Hm => Same H Hm ∧ ∃ us, Hm pl = some (.lst us) ∧ PacesAt K CQ (hid pl Hm) us r (js.take k) (spanN js)) ⟨same_new hpl, [], upd_same, by rw [List.take_zero]; rfl, fun i x j h => by simp at h⟩ (fun _ _ _ z => sameT z.1 hS) ?_ ?_
  · rintro k y Hm hy ⟨sm, us, em, P9⟩
    obtain ⟨j, c, hj, rfl, hc⟩ := share_at (js := js) (hA.mono sm) hy
    have lk : k < js.length := (List.getElem?_eq_some_iff.mp hj).1
    have lu : us.length = k := by rw [P9.1, List.length_take]; omega
    refine ⟨rfl, _, rfl, _, rfl, _, rfl, lot_get (sm _ _ ha) lot_span ?_⟩
    intro z dz hz hdz hnz
    have nz : z ≠ pl := fun e => by rw [e, em] at hz; cases hz
    have nd : dz ≠ pl := fun e => by rw [e, em] at hdz; cases hdz
    have emu : (upd (upd Hm dz (.own z)) z (.ins CQ dz [])) pl = some (.lst us) := by rw [upd_ne nz.symm, upd_ne nd.symm]; exact em
    refine ⟨z, dz, .ref c, x, r, j.2.1, j.2.2, spanN js, rfl, upd_same, hx, ?_, G.part j (List.mem_of_getElem? hj), hsp, fun H6 b6 P6 => ⟨rfl, us, ?_, small1000 (by omega), ?_⟩⟩
    · have s9 : Same Hm (upd (upd Hm dz (.own z)) z (.ins CQ dz [])) := (same_new hdz).trans (same_new (by rw [upd_ne hnz.symm]; exact hz))
      exact .tup (sameT s9 hc) (.cons (.int _) (.cons (.int _) .nil))
    · exact b6 _ _ nz.symm emu
    · have s10 := lot_same b6 hz hdz
      have P6' := P6 pl us emu
      refine ⟨Same.app hpl (sm.trans s10), us ++ [.ref z], upd_same, ?_, fun i y j' h1 h2 => ?_⟩
      · rw [List.length_append, lu, List.length_take]; show k + 1 = _; omega
      · have e1 : js.take (k + 1) = js.take k ++ [j] := by rw [List.take_add_one, hj]; rfl
        rw [e1] at h2
        rcases Nat.lt_or_ge i k with hi | hi
        · rw [List.getElem?_append_left (by omega)] at h1
          rw [List.getElem?_append_left (by rw [List.length_take]; omega)] at h2
          obtain ⟨c', e', p'⟩ := P9.2 i y j' h1 h2
          exact ⟨c', e', (p'.mono (hid_same (b := pl) s10)).mono hid_put⟩
        · rw [List.getElem?_append_right (by omega)] at h1
          rw [List.getElem?_append_right (by rw [List.length_take]; omega)] at h2
          have e0 : i - k = 0 := by
            have := (List.getElem?_eq_some_iff.mp h1).1
            rw [List.length_singleton] at this; omega
          rw [lu, e0] at h1
          rw [List.length_take, Nat.min_eq_left (by omega), e0] at h2
          cases h1; cases h2
          exact ⟨z, rfl, P6'.mono hid_put⟩
  rintro Hm ⟨sm, us, em, P9⟩
  rw [lx, List.take_length] at P9
  exact q pl us Hm hpl sm em P9
end
end Ts
namespace Ts
open PySem PySem.Spec PyProof.Rows L2
section
variable {P : Program} {w : World} {K : PySem.W.Frag} {mg : Str → Option Value} {base : Heap}
theorem has_order_of {CQ : Addr} (D : DefAt K mg "order_of" s_order_of) (B : Blt0 mg) (PC : PaceC K mg CQ) : Has P w K mg base 2 "order_of" ["paces", "stands"] (spOrderOf K CQ) := by
  refine D.has (fun _ _ _ _ _ _ us hl => match us, hl with | [_, _], _ => rfl) fun f fd F => F.ok sc_order_of (fun vs H Q E h => ?_) (fun cdv A outer s H vs Q E hr h => ?_)
  · obtain ⟨p, q, xs, ys, r, span, js, ss, rfl, _⟩ := h; rfl
  obtain ⟨p, q', xs, ys, r, span, js, ss, rfl, hp, PA9, hr4, hq, hss, St, l6, q⟩ := h
  refine ⟨_, (pss_cons (ps_setLc (i := 5) (own := [("at", 2), ("place", 3), ("since", 4)]) rfl sc_order_of.nd rfl rfl (sw_true rfl rfl rfl (by decide +kernel)) (pi_enum (by rfl) B.zenumerate (pa_cons (pv 1) pa_nil)) (blkOk_by (N := ["paces", "stands", "at", "place", "since", "due", "_"]) (sc := defScope s_order_of) (own := [("at", 2), ("place", 3), ("since", 4)]) (by decide +kernel)) (fun _ _ _ _ _ => (pg_tupK (K := K) (n := 2) rfl rfl (pgs_cons (pg_name (i := 2) sc_order_of.nd rfl (.inl rfl) (.inr rfl)) (pgs_cons (pg_tupK (K := K) (n := 2) rfl rfl (pgs_cons (pg_name (i := 3) sc_order_of.nd rfl (.inl rfl) (.inr rfl)) (pgs_cons (pg_name (i := 4) sc_order_of.nd rfl (.inl rfl) (.inr rfl)) pgs_nil))) pgs_nil)))) (fun _ _ _ _ _ => (pts_one (pt_cmpR op_ge (pv 4) pe_int (nomark _)))) (fun _ _ _ _ _ => (pe_tup (pa_cons (pe_ix (ixL (K := K) rfl) (pe_ix (ixL (K := K) rfl) (pe_fldK (K := K) rfl (pe_ix (ixL (K := K) rfl) (pv 0) (pv 2) (fun _ _ => rfl)) rfl) (pv 3) (fun _ _ => rfl)) (pv 4) (fun _ _ => rfl)) (pa_cons (pv 2) pa_nil)))))
      (pss_one (ps_ret (pe_callTy call_tuple_of (by rfl) B.ztuple (by decide +kernel) (pa_cons (pe_lc (own := [("_", 6), ("at", 2)]) rfl sc_order_of.nd (pi_list (pe_callB (cr_sortP (hu64 hr)) (by rfl) B.zsorted (by decide +kernel) (pa_cons (pv 5) pa_nil))) (blkOk_by (N := ["paces", "stands", "at", "place", "since", "due", "_"]) (sc := defScope s_order_of) (own := [("_", 6), ("at", 2)]) (by decide +kernel)) (fun _ _ _ _ _ => (pg_tupK (K := K) (n := 2) rfl rfl (pgs_cons (pg_name (i := 6) sc_order_of.nd rfl (.inl rfl) (.inr rfl)) (pgs_cons (pg_name (i := 2) sc_order_of.nd rfl (.inl rfl) (.inr rfl)) pgs_nil)))) (fun _ _ _ _ _ => pts_nil) (fun _ _ _ _ _ => (pv 2))) pa_nil))))), ?_⟩
  have ly : ys.length = js.length := by rw [hss.length, List.length_map]; exact St.1
  refine ⟨_, rfl, q', ys, rfl, hq, fun pl hpl => ?_⟩
  refine lc_it walk_enum (fun k Hm => Same H Hm ∧ ∃ us, Hm pl = some (.lst us) ∧ us.length ≤ k ∧ DpAll K (hid pl Hm) us ((dueK r span (js.take k) (ss.take k) 0).map dueD)) ⟨same_new hpl, [], upd_same, Nat.zero_le _, .nil⟩ (fun k Hk _ z => z.1.seq hq) ?_ ?_
  · rintro k y Hm Hm' hk ⟨sm, us, em, lu, D9⟩ ⟨T, y1, z1, rfl, hT, rfl, ey, ez⟩
    dsimp only at ey ez
    cases ey
    obtain ⟨d, hd, hv⟩ := hss.get ez
    rw [List.getElem?_map] at hd
    cases es : ss[k]? with
    | none => rw [es] at hd; cases hd
    | some s9 =>
    rw [es] at hd
    cases Option.some.inj hd
    obtain ⟨ta, ws, rfl, ht1, ht2⟩ := hv.tuple
    obtain ⟨u1, u2, rfl, hz1, hz2⟩ := ht2.two
    cases hz1.int_eq
    cases hz2.int_eq
    have sT : Same Hm (upd Hm T (.tup [.int (k : Int), .ref ta])) := same_new hT
    have eD := sT _ _ em
    have sa := sm.trans sT
    have kl : k < js.length := by rw [← ly]; exact (List.getElem?_eq_some_iff.mp ez).1
    have ej : js[k]? = some js[k] := List.getElem?_eq_getElem kl
    have ex : xs[k]? = some (xs[k]'(by rw [PA9.1]; exact kl)) := List.getElem?_eq_getElem _
    obtain ⟨s1, s2, s3⟩ := St.2 k _ s9 ej es
    obtain ⟨c, ec, Pc⟩ := PA9.2 k _ _ ex ej
    generalize js[k] = j at ej s1 s2 s3 Pc
    generalize xs[k]'(by rw [PA9.1]; exact kl) = x9 at ex ec
    subst ec
    have e1 : js.take (k + 1) = js.take k ++ [j] := by rw [List.take_add_one, ej]; rfl
    have e2 : ss.take (k + 1) = ss.take k ++ [s9] := by rw [List.take_add_one, es]; rfl
    have ls : ss.length = js.length := St.1
    have eN := dueK_snoc (r := r) (span := span) (j := j) (s := s9) (js := js.take k) (ss := ss.take k) (k := 0) (by rw [List.length_take, List.length_take]; omega)
    have lk : (js.take k).length = k := by rw [List.length_take]; omega
    rw [lk, Nat.zero_add] at eN
    refine ⟨T, _, rfl, SqT.of upd_same, rfl, _, _, rfl, _, _, rfl, ta, _, rfl, sameT sa ht1, rfl, _, _, rfl, _, _, rfl, rfl, rfl, rfl, ?_⟩
    refine ⟨_, rfl, _, _, rfl, rfl, _, rfl, ite2 (fun t => ?_) (fun t => ?_)⟩
    · have t' : 0 ≤ s9.2 := of_decide_eq_true t
      obtain ⟨dx, fs, h1, _, _, ⟨v, h6, h7⟩, _⟩ := Pc.ex
      obtain ⟨pk, ks, rfl, hkS, hkA⟩ := h7.list
      obtain ⟨pl0, hp0⟩ := Int.eq_ofNat_of_zero_le s1
      obtain ⟨si0, hs0⟩ := Int.eq_ofNat_of_zero_le t'
      have pe : pl0 < j.2.1 := by omega
      have lks : ks.length = j.2.1 := by rw [hkA.length, List.length_map, List.length_range]
      have eks : ks[pl0]? = some (ks[pl0]'(by omega)) := List.getElem?_eq_getElem _
      obtain ⟨d1, hd1, hv1⟩ := hkA.get eks
      rw [List.getElem?_map, List.getElem?_range pe] at hd1
      cases Option.some.inj hd1
      generalize ks[pl0]'(by omega) = y1 at eks hv1
      obtain ⟨pc, cs, rfl, hcS, hcA⟩ := hv1.list
      have lt : (ticksL r j.2.1 j.2.2 span pl0).length = (borI j.2.1 j.2.2 ((pl0 : Int) + 1) - begI j.2.1 j.2.2 ((pl0 : Int) + 1)).toNat := by unfold ticksL; rw [List.length_map, List.length_range]
      have s4 := s3 t'
      rw [hp0, hs0] at s4
      have lcs : cs.length = (ticksL r j.2.1 j.2.2 span pl0).length := by rw [hcA.length, List.length_map]
      have sl : si0 < cs.length := by rw [lcs, lt]; omega
      have ecs : cs[si0]? = some (cs[si0]'sl) := List.getElem?_eq_getElem _
      obtain ⟨d2, hd2, hv2⟩ := hcA.get ecs
      generalize cs[si0]'sl = y2 at ecs hv2
      have et : (ticksL r j.2.1 j.2.2 span pl0)[si0]? = some (rankI r j.2.1 j.2.2 span ((pl0 : Int) + 1) (begI j.2.1 j.2.2 ((pl0 : Int) + 1) + (si0 : Int))) := by
        unfold ticksL
        rw [List.getElem?_map, List.getElem?_range (by rw [← lt, ← lcs]; exact sl)]; rfl
      rw [List.getElem?_map, et] at hd2
      cases Option.some.inj hd2
      refine ⟨_, rfl, _, rfl, p, xs, (k : Int), .ref c, rfl, rfl, sa.seq hp, atI_nat ex, c, CQ, dx, fs, _, rfl, sa _ _ h1, PC.cl, PC.nranks, h6, ?_⟩
      refine ⟨_, rfl, pk, ks, s9.1, .ref pc, rfl, rfl, sa.seq hkS, by rw [hp0]; exact atI_nat eks, _, rfl, pc, cs, s9.2, y2, rfl, rfl, sa.seq hcS, by rw [hs0]; exact atI_nat ecs, _, rfl, by show 2 ≤ sizeLine; decide, fun T2 hT2 => ?_⟩
      have sT2 := same_new (o := .tup [y2, .int (k : Int)]) hT2
      have n2 : T2 ≠ pl := fun z => by rw [z, eD] at hT2; cases hT2
      refine ⟨us, sT2 _ _ eD, small1000 (by omega), Same.app hpl (sa.trans sT2), us ++ [.ref T2], upd_same, by rw [List.length_append]; show us.length + 1 ≤ _; omega, ?_⟩
      rw [e1, e2, eN, if_pos t', List.map_append]
      refine ((D9.mono (hid_same (b := pl) (sT.trans sT2))).mono hid_put).snoc ?_
      have sN : Same H (hid pl (upd (upd (upd Hm T (.tup [.int (k : Int), .ref ta])) T2 (.tup [y2, .int (k : Int)])) pl (.lst (us ++ [.ref T2])))) := hid_new (Same.app hpl (sa.trans sT2)) hpl
      refine .tup (SqT.of ((hid_ne n2).trans (by rw [upd_ne n2]; exact upd_same))) (.cons ?_ (.cons (.int _) .nil))
      rw [hp0, hs0]
      exact hv2.mono sN
    · have t' : ¬ 0 ≤ s9.2 := fun z => t (decide_eq_true z)
      refine ⟨sa, us, eD, by omega, ?_⟩
      rw [e1, e2, eN, if_neg t', List.append_nil]
      exact D9.mono (hid_same (b := pl) sT)
  rintro Hm ⟨sm, us, em, lu, D9⟩
  rw [ly, List.take_length, List.take_of_length_le (by rw [St.1]; exact Nat.le_refl _)] at D9
  have D0 := D9.mono hid_sub
  refine ⟨_, rfl, pl, us, _, rfl, SqL.of em, D0, ?_, ?_, ?_, fun zs p2 Dz hp2 => ?_⟩
  · intro d hd d' hd'
    obtain ⟨x1, _, rfl⟩ := List.mem_map.mp hd
    obtain ⟨x2, _, rfl⟩ := List.mem_map.mp hd'
    exact alike_due x1 x2
  · refine .inl fun d hd => ?_
    obtain ⟨x1, _, rfl⟩ := List.mem_map.mp hd
    exact ⟨_, _, rfl⟩
  · intro d hd
    obtain ⟨x1, _, rfl⟩ := List.mem_map.mp hd
    have := depth_due x1
    omega
  have hS : ∀ d ∈ ((dueK r span js ss 0).map dueD).mergeSort (PySem.W.dataLe false id), ∃ x1, d = dueD x1 := fun d hd => by
    obtain ⟨x1, _, rfl⟩ := List.mem_map.mp ((List.mergeSort_perm _ _).mem_iff.mp hd)
    exact ⟨x1, rfl⟩
  have lS : (((dueK r span js ss 0).map dueD).mergeSort (PySem.W.dataLe false id)).length ≤ 6 := by
    rw [List.length_mergeSort, List.length_map]
    exact Nat.le_trans (dueK_len js ss 0) l6
  have eO : ordL (dueK r span js ss 0) = (((dueK r span js ss 0).map dueD).mergeSort (PySem.W.dataLe false id)).map atD := rfl
  rw [eO] at q
  revert hS lS Dz q
  generalize ((dueK r span js ss 0).map dueD).mergeSort (PySem.W.dataLe false id) = S9
  intro q Dz hS lS
  have lz : zs.length = S9.length := Dz.length
  have s2 : Same H (upd Hm p2 (.lst zs)) := sm.trans (same_new hp2)
  have e2 : (upd Hm p2 (.lst zs)) p2 = some (.lst zs) := upd_same
  have Dz2 := Dz.mono (same_new (o := .lst zs) hp2)
  revert s2 e2 Dz2
  generalize upd Hm p2 (.lst zs) = H2
  intro s2 e2 Dz2
  refine ⟨p2, rfl, ⟨zs, SqL.of e2⟩, fun D2 hD2 => ?_⟩
  refine lc_list (K := K) (a := p2) (xs := zs) (fun k Hk => Same H2 Hk ∧ Hk D2 = some (.lst (((S9.take k).map atD).map V.int))) ⟨same_new hD2, by rw [List.take_zero]; exact upd_same⟩ (fun _ _ _ z => SqL.of (z.1 _ _ e2)) ?_ ?_
  · rintro k y Hk hk ⟨sk, ek⟩
    obtain ⟨d, hd, hv⟩ := Dz2.get hk
    obtain ⟨x1, rfl⟩ := hS d (List.mem_of_getElem? hd)
    obtain ⟨ta, ws, rfl, ht1, ht2⟩ := (show Dp K H2 y (.tuple [rowD x1.1, .int (x1.2 : Int)]) from hv).tuple
    obtain ⟨u1, u2, rfl, hz1, hz2⟩ := ht2.two
    cases hz2.int_eq
    have kl : k < S9.length := (List.getElem?_eq_some_iff.mp hd).1
    refine ⟨ta, _, rfl, sameT sk ht1, rfl, _, _, rfl, _, _, rfl, rfl, rfl, yesIf ⟨_, rfl, _, ek, ?_, Same.app hD2 sk, ?_⟩⟩
    · rw [List.length_map, List.length_map, List.length_take]; exact small1000 (by omega)
    · rw [upd_same, map_take_succ _ hd, List.map_append]; rfl
  rintro Hk ⟨sk, ek⟩
  rw [lz, List.take_length] at ek
  exact ⟨D2, _, rfl, .inl ⟨SqL.of ek, fun l hl => q l _ ((s2.trans sk).free hl) ((s2.trans sk).trans (same_new hl)) upd_same⟩⟩
end
end Ts
namespace Ts
open PySem PySem.Spec PyProof.Rows L2
section
variable {P : Program} {w : World} {K : PySem.W.Frag} {mg : Str → Option Value} {base : Heap}
theorem ok_place {C f : Addr} {fd : FuncData} (F : Fun K "place_behind" "Pace.place_behind" s_Pace_place_behind f fd) (B : Blt0 mg) (PC : PaceC K mg C) : FnOk P w K mg base CX0 1 f fd ["self", "place"] (spPlace K C) := by
  refine F.ok sc_Pace_place_behind (fun vs H Q E h => ?_) (fun cdv A outer s H vs Q E hr h => ?_)
  · obtain ⟨a, r, e, p, span, pl, rfl, _⟩ := h; rfl
  obtain ⟨a, r, e, p, span, pl, rfl, PA9, e0, e1, q⟩ := h
  refine ⟨_, (pss_one (ps_ret (pe_op op_mod (pe_op op_add (pv 1) pe_int) (pe_callB call_len_seq (by rfl) B.zlen (by decide +kernel) (pa_cons (pe_fld (pv 0) rfl) pa_nil))))), ?_⟩
  obtain ⟨dx, fs, h1, _, ⟨pg, h4, h5⟩, _⟩ := PA9.ex
  have lg : ((gapsL e p).map V.int).length = e := by unfold gapsL; rw [List.length_map, List.length_map, List.length_range]
  refine ⟨_, rfl, _, _, rfl, rfl, _, rfl, a, C, dx, fs, _, rfl, h1, PC.cl, PC.ngaps, h4, pg, _, rfl, .inl h5, _, _, rfl, rfl, by rw [lg]; omega, ?_⟩
  rw [lg]
  exact q
theorem has_play {C CQ : Addr} (D : DefAt K mg "play" s_play) (B : Blt0 mg) (T : LotC K mg C) (PC : PaceC K mg CQ) (p_hands : PropH P w K mg base C "hands" "_hands") (p_names : PropH P w K mg base C "names" "_names") (h_paces_of : Has P w K mg base 9 "paces_of" ["lot", "rule"] (spPacesOf K C CQ)) (h_order_of : Has P w K mg base 2 "order_of" ["paces", "stands"] (spOrderOf K CQ)) (m_place_behind : HasD P w K mg base 1 CQ "place_behind" ["self", "place"] (spPlace K CQ)) : Has P w K mg base 10 "play" ["lot", "rule", "delays", "ticks"] (spPlay K C) := by
  refine D.has (fun _ _ _ _ _ _ us hl => match us, hl with | [_, _, _, _], _ => rfl) fun f fd F => F.ok sc_play (fun vs H Q E h => ?_) (fun cdv A outer s H vs Q E hr h => ?_)
  · obtain ⟨a, pd, n, r, f, js, x, ds, late, rfl, _⟩ := h; rfl
  obtain ⟨a, pd, n, r, f, js, x, ds, late, rfl, L, G, l0, l6, hsp, hx, hpd, hds, hl, hf, q⟩ := h
  have hu := hu_of hr
  refine ⟨_, (pss_cons (ps_set (i := 4) sc_play.nd rfl (.inl rfl) (pe_h h_paces_of (hr.mono (by decide)) (pa_cons (pv 0) (pa_cons (pv 1) pa_nil))))
      (pss_cons (ps_set (i := 5) sc_play.nd rfl (.inl rfl) (pe_op op_rep (pe_lst (pa_cons pe_int pa_nil)) (pe_callB call_len_seq (by rfl) B.zlen (by decide +kernel) (pa_cons (pv 4) pa_nil))))
      (pss_cons (ps_setLc (i := 7) (own := [("late", 6)]) rfl sc_play.nd rfl rfl (sw_true rfl rfl rfl (by decide +kernel)) (pi_list (pv 2)) (blkOk_by (N := ["lot", "rule", "delays", "ticks", "paces", "turns", "late", "stands", "told", "moment", "crew", "at", "pace", "place", "since"]) (sc := defScope s_play) (own := [("late", 6)]) (by decide +kernel)) (fun _ _ _ _ _ => (pg_name (i := 6) sc_play.nd rfl (.inl rfl) (.inr rfl))) (fun _ _ _ _ _ => pts_nil) (fun _ _ _ _ _ => (pe_tup (pa_cons pe_int (pa_cons (pe_un un_neg (pe_dget2 hu (pv 6) pe_int pe_int ⟨rfl, rfl, rfl, rfl⟩)) pa_nil)))))
      (pss_cons (ps_set (i := 8) sc_play.nd rfl (.inl rfl) (pe_lst pa_nil))
      (pss_cons (ps_for PassesOwn.never rfl (pi_range1 (by rfl) B.zrange (pa_cons (pv 3) pa_nil)) (pg_name (i := 9) sc_play.nd rfl (.inl rfl)) (pss_cons (ps_set (i := 10) sc_play.nd rfl (.inl rfl) (pe_slice sl_tupU (pe_h h_order_of (hr.mono (by decide)) (pa_cons (pv 4) (pa_cons (pv 7) pa_nil))) po_none (po_some (pe_ph p_hands T.cl (hr.mono (by decide)) (pv 0)))))
      (pss_cons (ps_expr (pe_bm PySem.F.plainAttrs_list PySem.F.slot_list_append PySem.F.type_list_append mt_append (pv 8) (pa_cons (pe_callTy call_tuple_of (by rfl) B.ztuple (by decide +kernel) (pa_cons (pe_callB cr_sortTI (by rfl) B.zsorted (by decide +kernel) (pa_cons (pv 10) pa_nil)) pa_nil)) pa_nil)))
      (pss_cons (ps_for PassesOwn.never rfl (pi_enum (by rfl) B.zenumerate (pa_cons (pv 4) pa_nil)) (pg_tup rfl (pgs_cons (pg_name (i := 11) sc_play.nd rfl (.inl rfl)) (pgs_cons (pg_name (i := 12) sc_play.nd rfl (.inl rfl)) pgs_nil))) (pss_cons (ps_asg (pe_ix ix_list (pv 7) (pv 11) (fun _ _ => rfl)) (pg_tup rfl (pgs_cons (pg_name (i := 13) sc_play.nd rfl (.inl rfl)) (pgs_cons (pg_name (i := 14) sc_play.nd rfl (.inl rfl)) pgs_nil))))
      (pss_one (ps_if (pt_cmpR op_in_seq (pv 11) (pv 10) (by rfl)) (pss_cons (ps_augS (pv 5) (pv 11) get_listP pe_int ip_add set_list)
      (pss_cons (ps_set (i := 6) sc_play.nd rfl (.inl rfl) (pe_dget2 hu (pe_ix ix_list (pv 2) (pv 11) (fun _ _ => rfl)) (pe_ix ix_list (pv 5) (pv 11) (fun _ _ => rfl)) pe_int ⟨rfl, rfl, rfl, rfl⟩))
      (pss_one (ps_asg (pe_tup (pa_cons (pe_hd m_place_behind PC.cl (hr.mono (by decide)) (pv 12) (pa_cons (pv 13) pa_nil)) (pa_cons (pe_op op_sub (pe_op op_sub (pe_op op_add (pv 14) pe_int) (pe_ix ix_list (pe_fld (pv 12) rfl) (pv 13) (fun _ _ => rfl))) (pv 6)) pa_nil))) (pg_sub (pv 7) (pv 11) set_list))))) (pss_one (ps_asg (pe_tup (pa_cons (pv 13) (pa_cons (pe_op op_add (pv 14) pe_int) pa_nil))) (pg_sub (pv 7) (pv 11) set_list)))))))
      (pss_one (ps_for PassesOwn.never rfl (pi_enum (by rfl) B.zenumerate (pa_cons (pv 7) pa_nil)) (pg_tup rfl (pgs_cons (pg_name (i := 11) sc_play.nd rfl (.inl rfl)) (pgs_cons (pg_tup rfl (pgs_cons (pg_name (i := 13) sc_play.nd rfl (.inl rfl)) (pgs_cons (pg_name (i := 14) sc_play.nd rfl (.inl rfl)) pgs_nil))) pgs_nil))) (pss_one (ps_if (pt_cmpR op_eq (pv 14) (pe_ix ix_list (pe_fld (pe_ix ix_list (pv 4) (pv 11) (fun _ _ => rfl)) rfl) (pv 13) (fun _ _ => rfl)) (nomark _)) (pss_one (ps_ret (pe_tup (pa_cons (pe_callTy call_tuple_of (by rfl) B.ztuple (by decide +kernel) (pa_cons (pv 8) pa_nil)) (pa_cons (pe_tup (pa_cons (pe_op op_add (pv 9) pe_int) (pa_cons (pe_ix ix_tup (pe_ph p_names T.cl (hr.mono (by decide)) (pv 0)) (pv 11) (fun _ _ => rfl)) (pa_cons (pe_ix ix_list (pv 5) (pv 11) (fun _ _ => rfl)) pa_nil)))) pa_nil))))) pss_nil))))))))
      (pss_one (ps_ret (pe_tup (pa_cons (pe_callTy call_tuple_of (by rfl) B.ztuple (by decide +kernel) (pa_cons (pv 8) pa_nil)) (pa_cons pe_non pa_nil)))))))))), ?_⟩
  have n0 : ∀ k, k < js.length → GoodPart 16 (jAt js k).2.1 (jAt js k).2.2 := fun k hk => by
    have := G.part js[k] (List.getElem_mem hk)
    have e : jAt js k = js[k] := getD_of (List.getElem?_eq_getElem hk)
    rw [e]; exact this
  refine ⟨_, rfl, _, rfl, a, n, r, js, x, rfl, L, G, l6, hsp, hx, fun pp xs H1 hpp s1 e1 P1 => ?_⟩
  have P1 : PacesAt K CQ H1 xs r js (spanN js) := ⟨P1.1, fun i y j h1 h2 => by
    obtain ⟨c, e, h3⟩ := P1.2 i y j h1 h2
    exact ⟨c, e, h3.mono hid_sub⟩⟩
  dsimp only [List.set]
  -- turns
  refine ⟨by show 1 ≤ sizeLine; decide, fun pz hpz => ⟨_, rfl, pp, xs, rfl, .inl (SqL.of (same_new hpz _ _ e1)), pz, (xs.length : Int), _, rfl, rfl, upd_same, by omega, by have := P1.1; omega, by show 1 * ((xs.length : Int)).toNat ≤ sizeLine; rw [sizeLine_eq, P1.1]; omega, fun pt hpt => ?_⟩⟩
  have s2 : Same H1 (upd (upd H1 pz (.lst [.int 1])) pt (.lst (List.replicate ((xs.length : Int)).toNat [V.int 1]).flatten)) := (same_new hpz).trans (same_new hpt)
  have e2 : (upd (upd H1 pz (.lst [.int 1])) pt (.lst (List.replicate ((xs.length : Int)).toNat [V.int 1]).flatten)) pt = some (.lst ((List.replicate js.length (1 : Int)).map V.int)) := by
    rw [upd_same, Int.toNat_natCast, P1.1, List.flatten_replicate_singleton, List.map_replicate]
  have npt : H1 pt = none := (same_new (o := .lst [V.int 1]) hpz).free hpt
  revert s2 e2
  generalize upd (upd H1 pz (.lst [.int 1])) pt (.lst (List.replicate ((xs.length : Int)).toNat [V.int 1]).flatten) = H2
  intro s2 e2
  clear hpz hpt
  -- stands
  have hpd2 := s2.seq (s1.seq hpd)
  refine ⟨_, rfl, pd, rfl, ⟨_, hpd2⟩, fun pS hpS => ?_⟩
  have npS : H1 pS = none := s2.free hpS
  refine lc_list (K := K) (a := pd) (xs := ds) (fun k Hm => Same H2 Hm ∧ ∃ sv, Hm pS = some (.lst sv) ∧ StV Hm sv ((List.range k).map fun k => ((0 : Int), - late k 1))) ⟨same_new hpS, [], upd_same, rfl, fun i s h => by simp at h⟩ (fun _ _ _ z => z.1.seq hpd2) ?_ ?_
  · rintro k y Hm hy ⟨sm, sv, em, S9⟩
    obtain ⟨d, kvs, rfl, hd, hv⟩ := hds.2 k y hy
    have hdm := sm _ _ (s2 _ _ (s1 _ _ hd))
    have kl : k < js.length := by rw [← hds.1]; exact (List.getElem?_eq_some_iff.mp hy).1
    have lsv : sv.length = k := by rw [S9.1, List.length_map, List.length_range]
    refine ⟨rfl, yesIf ⟨_, rfl, d, rfl, .inl ⟨kvs, .inl hdm⟩, _, DGet.k (k := .inl 1) hdm, ?_⟩⟩
    rw [hv 1]
    refine ⟨_, rfl, by show 2 ≤ sizeLine; decide, fun T2 hT2 => ⟨sv, same_new hT2 _ _ em, small1000 (by omega), ?_⟩⟩
    have nT : T2 ≠ pS := fun z => by rw [z, em] at hT2; cases hT2
    have sT := same_new (o := .tup [.int 0, .int (- late k 1)]) hT2
    refine ⟨Same.app hpS (sm.trans sT), sv ++ [.ref T2], upd_same, ?_⟩
    rw [List.range_succ, List.map_append]
    refine ⟨by rw [List.length_append, List.length_append, S9.1]; rfl, fun i s h => ?_⟩
    rcases Nat.lt_or_ge i k with hi | hi
    · rw [List.getElem?_append_left (by rw [List.length_map, List.length_range]; exact hi)] at h
      obtain ⟨q9, h1, h2⟩ := S9.2 i s h
      exact ⟨q9, by rw [List.getElem?_append_left (by omega)]; exact h1, (Tups.of sT).trans (Tups.put (sT _ _ em)) _ _ h2⟩
    · rw [List.getElem?_append_right (by rw [List.length_map, List.length_range]; exact hi), List.length_map, List.length_range] at h
      have e0 : i - k = 0 := by
        have := (List.getElem?_eq_some_iff.mp h).1
        simpa using this
      rw [e0] at h
      cases Option.some.inj h
      exact ⟨T2, by rw [List.getElem?_append_right (by omega), lsv, e0]; rfl, by rw [upd_ne nT]; exact upd_same⟩
  rintro H3 ⟨s3, sv, eS3, S3⟩
  have lds : ds.length = js.length := hds.1
  rw [lds] at S3
  have e3t := s3 _ _ e2
  have s13 := s2.trans s3
  clear s2 s3 e2 hpS hpd2
  dsimp only [List.set]
  -- told
  refine ⟨by show 0 ≤ sizeLine; decide, fun pl hpl => ?_⟩
  have npl : H1 pl = none := s13.free hpl
  have ntS : pt ≠ pS := fun z => by
    rw [z, eS3] at e3t
    have : sv = (List.replicate js.length (1 : Int)).map V.int := by injection (Option.some.inj e3t)
    obtain ⟨q9, h1, _⟩ := S3.2 0 _ (by rw [List.getElem?_map, List.getElem?_range l0]; rfl)
    rw [this, List.getElem?_map] at h1
    cases q : (List.replicate js.length (1 : Int))[0]? with
    | none => rw [q] at h1; cases h1
    | some y => rw [q] at h1; cases h1
  have ntl : pt ≠ pl := fun z => by rw [z, hpl] at e3t; cases e3t
  have nSl : pS ≠ pl := fun z => by rw [z, hpl] at eS3; cases eS3
  have s4 := same_new (o := .lst []) hpl
  have e4t := s4 _ _ e3t
  have e4S := s4 _ _ eS3
  have S4 := S3.tups (Tups.of s4)
  have e4l : (upd H3 pl (.lst [])) pl = some (.lst []) := upd_same
  have s14 := s13.trans s4
  revert e4t e4S S4 e4l s14
  generalize upd H3 pl (.lst []) = H4
  intro e4t e4S S4 e4l s14
  clear s4 hpl eS3 e3t S3 s13 hpp
  have St0 : Stand js ((List.range js.length).map fun k => ((0 : Int), - late k 1)) := ⟨by rw [List.length_map, List.length_range], fun i j s hj hs => by
    have il : i < js.length := (List.getElem?_eq_some_iff.mp hj).1
    rw [List.getElem?_map, List.getElem?_range il] at hs
    cases Option.some.inj hs
    have g := G.part j (List.mem_of_getElem? hj)
    have := hl i 1
    have := len_up0 (j := j) (t := 1) g
    refine ⟨Int.le_refl _, ?_, fun h0 => ?_⟩
    · have := g.1; show (0 : Int) < _; omega
    · have h0 : 0 ≤ - late i 1 := h0
      show - late i 1 < borI j.2.1 j.2.2 (0 + 1) - begI j.2.1 j.2.2 (0 + 1)
      rw [Int.zero_add]; omega⟩
  generalize hts : List.replicate js.length (1 : Int) = ts0 at e4t q
  have lts : ts0.length = js.length := by rw [← hts, List.length_replicate]
  clear hts
  generalize ((List.range js.length).map fun k => ((0 : Int), - late k 1)) = ss0 at S4 St0 q
  refine ⟨_, rfl, (f : Int), rfl, by omega, by omega, for_range (lo := 0) (n := ((f : Int)).toNat) (fun m σ Hn => Same H1 Hn ∧ ∃ (ts : List Int) (sv us : List V) (ss : List (Int × Int)) (rows : List (List Int)) (v6 v9 v10 v11 v12 v13 v14 : Option V), Hn pt = some (.lst (ts.map V.int)) ∧ Hn pS = some (.lst sv) ∧ Hn pl = some (.lst us) ∧ ts.length = js.length ∧ StV Hn sv ss ∧ Stand js ss ∧ RowT Hn us rows ∧ us.length = m ∧
      playN late r n (spanN js) js f 0 ts0 ss0 = (rows ++ (playN late r n (spanN js) js (f - m) (m : Int) ts ss).1, (playN late r n (spanN js) js (f - m) (m : Int) ts ss).2) ∧ σ = [some (.ref a), some (.str x), some (.ref pd), some (.int (f : Int)), some (.ref pp), some (.ref pt), v6, some (.ref pS), some (.ref pl), v9, v10, v11, v12, v13, v14])
    ⟨s14, ts0, sv, [], ss0, [], _, _, _, _, _, _, _, e4t, e4S, e4l, lts, S4, St0, .nil, rfl, rfl, rfl⟩ ?_ ?_⟩
  · clear e4t e4S e4l lts S4 St0 s14 sv
    rintro m σ Hn hm ⟨sn, ts, sv, us, ss, rows, v6, v9, v10, v11, v12, v13, v14, et, eS, el, lt9, Sn, Stn, Rn, lu, hplay, rfl⟩
    have hm : m < f := by omega
    have ez : (0 : Int) + (m : Int) = (m : Int) := by omega
    rw [ez]
    dsimp only [List.set]
    -- the crew
    refine ⟨_, rfl, _, rfl, pp, pS, xs, sv, r, spanN js, js, ss, rfl, SqL.of (sn _ _ e1), P1.mono sn, by have := (List.getElem?_eq_some_iff.mp hx).1; exact this, SqL.of eS, Sn.dp, Stn, l6, fun pc H5 hpc s5 e5 => ?_⟩
    have sn5 := sn.trans s5
    have L5 := (L.mono s1).mono sn5
    obtain ⟨dx, pn, ps9, pt9, ha, nm, _, _⟩ := id L5.ex
    refine ⟨_, rfl, lot_get ha lot_hands ⟨_, rfl, pc, _, rfl, SqT.of e5, fun p2 H6 s6 o6 _ t6 => ?_⟩⟩
    have e6 := t6 e5
    rw [cut_top, ← List.map_take] at e6
    have e6 : H6 p2 = some (.tup ((crewA r n (spanN js) js ss).map V.int)) := e6
    have s06 := s5.trans s6
    have sn6 := sn.trans s06
    have et6 := s06 _ _ et
    have eS6 := s06 _ _ eS
    have el6 := s06 _ _ el
    have Sn6 := Sn.tups (Tups.of s06)
    have Rn6 := Rn.tups (Tups.of s06)
    clear t6 o6 e5 hpc s5 s6 sn5 L5 ha nm et eS el Sn Rn s06 sn
    dsimp only [List.set]
    refine ⟨_, rfl, .inl ⟨rfl, _, SqL.of el6⟩, _, rfl, p2, crewA r n (spanN js) js ss, rfl, SqT.of e6, fun ms p3 pm pw hp3 => ⟨p3, _, rfl, .inl ⟨SqL.of upd_same, fun p4 hp4 => ?_⟩⟩⟩
    cases sortI_eq pm pw
    have s7 : Same H6 (upd (upd H6 p3 (.lst ((sortI (crewA r n (spanN js) js ss)).map V.int))) p4 (.tup ((sortI (crewA r n (spanN js) js ss)).map V.int))) := (same_new hp3).trans (same_new hp4)
    have e74 : (upd (upd H6 p3 (.lst ((sortI (crewA r n (spanN js) js ss)).map V.int))) p4 (.tup ((sortI (crewA r n (spanN js) js ss)).map V.int))) p4 = some (.tup ((sortI (crewA r n (spanN js) js ss)).map V.int)) := upd_same
    revert s7 e74
    generalize upd (upd H6 p3 (.lst ((sortI (crewA r n (spanN js) js ss)).map V.int))) p4 (.tup ((sortI (crewA r n (spanN js) js ss)).map V.int)) = H7
    intro s7 e74
    refine ⟨pl, _, _, rfl, rfl, s7 _ _ el6, by rw [sizeLine_eq]; omega, ?_⟩
    have p7 : Tups H7 (upd H7 pl (.lst (us ++ [.ref p4]))) := Tups.put (s7 _ _ el6)
    have sn8 : Same H1 (upd H7 pl (.lst (us ++ [.ref p4]))) := fun c o e => by rw [upd_ne (ne_of_none e npl)]; exact s7 _ _ (sn6 _ _ e)
    have et8 : (upd H7 pl (.lst (us ++ [.ref p4]))) pt = some (.lst (ts.map V.int)) := by rw [upd_ne ntl]; exact s7 _ _ et6
    have eS8 : (upd H7 pl (.lst (us ++ [.ref p4]))) pS = some (.lst sv) := by rw [upd_ne nSl]; exact s7 _ _ eS6
    have el8 : (upd H7 pl (.lst (us ++ [.ref p4]))) pl = some (.lst (us ++ [.ref p4])) := upd_same
    have e28 := p7 _ _ (s7 _ _ e6)
    have Sn8 := Sn6.tups ((Tups.of s7).trans p7)
    have Rn8 := (Rn6.tups ((Tups.of s7).trans p7)).snoc (p7 _ _ e74)
    revert sn8 et8 eS8 el8 e28 Sn8 Rn8
    generalize upd H7 pl (.lst (us ++ [.ref p4])) = H8
    intro sn8 et8 eS8 el8 e28 Sn8 Rn8
    clear p7 s7 e74 pm pw hp3 hp4 et6 eS6 el6 Sn6 Rn6 sn6 e6
    generalize hcr : crewA r n (spanN js) js ss = crew at e28 Rn8
    have lcr : ∀ k : Nat, (k : Int) ∈ crew → ∃ s, ss[k]? = some s ∧ 0 ≤ s.2 := fun k h => crew_due (by rw [hcr]; exact h)
    have lss : ss.length = js.length := Stn.1
    -- the step
    refine ⟨_, rfl, pp, xs, rfl, SqL.of (sn8 _ _ e1), for_it walk_enum (fun k σ Hn => Same H1 Hn ∧ ∃ (ts' : List Int) (sv' : List V) (ss' : List (Int × Int)) (v6 v11 v12 v13 v14 : Option V), Hn pt = some (.lst (ts'.map V.int)) ∧ Hn pS = some (.lst sv') ∧ Hn pl = some (.lst (us ++ [.ref p4])) ∧ Hn p2 = some (.tup (crew.map V.int)) ∧ ts'.length = js.length ∧ ss'.length = js.length ∧ StV Hn sv' ss' ∧ RowT Hn (us ++ [.ref p4]) (rows ++ [sortI crew]) ∧
      (∀ i, i < js.length → ts'.getD i 0 = (if i < k then stepT crew ts i else ts.getD i 0) ∧ sAt ss' i = (if i < k then stepS late crew js ts ss i else sAt ss i)) ∧ σ = [some (.ref a), some (.str x), some (.ref pd), some (.int (f : Int)), some (.ref pp), some (.ref pt), v6, some (.ref pS), some (.ref pl), some (.int (m : Int)), some (.ref p2), v11, v12, v13, v14])
      ⟨sn8, ts, sv, ss, _, _, _, _, _, et8, eS8, el8, e28, lt9, lss, Sn8, Rn8, fun i _ => by rw [if_neg (Nat.not_lt_zero _), if_neg (Nat.not_lt_zero _)]; exact ⟨rfl, rfl⟩, rfl⟩ (fun _ _ _ _ z => SqL.of (z.1 _ _ e1)) ?_ ?_⟩
    · clear sn8 et8 eS8 el8 e28 Sn8 Rn8
      rintro k y σ H9 H9' hk ⟨sn9, ts', sv', ss', v6, v11, v12, v13, v14, et9, eS9, el9, e29, lt', ls', Sn9, Rn9, pw9, rfl⟩ ⟨T9, y1, y2, rfl, hT, rfl, ey, ez⟩
      dsimp only at ey ez
      cases ey
      have kl : k < js.length := by rw [← P1.1]; exact hk
      have ej : js[k]? = some (jAt js k) := by
        have e := List.getElem?_eq_getElem kl
        rw [e]; exact congrArg some (getD_of e).symm
      obtain ⟨c, rfl, Pc⟩ := P1.2 k y2 _ ez ej
      have sT : Same H9 (upd H9 T9 (.tup [.int (k : Int), .ref c])) := same_new hT
      have snT := sn9.trans sT
      have etT := sT _ _ et9
      have eST := sT _ _ eS9
      have elT := sT _ _ el9
      have e2T := sT _ _ e29
      have SnT := Sn9.tups (Tups.of sT)
      have RnT := Rn9.tups (Tups.of sT)
      refine ⟨T9, _, rfl, SqT.of upd_same, rfl, _, _, rfl, _, _, rfl, rfl, ?_⟩
      revert snT etT eST elT e2T SnT RnT
      generalize upd H9 T9 (.tup [.int (k : Int), .ref c]) = HA
      intro snT etT eST elT e2T SnT RnT
      clear sT hT et9 eS9 el9 e29 Sn9 Rn9 sn9 H9
      dsimp only [List.set]
      obtain ⟨pt1, pt2⟩ := pw9 k kl
      rw [if_neg (Nat.lt_irrefl _)] at pt1 pt2
      have es : ss'[k]? = some (sAt ss k) := by
        rw [← pt2]
        have e := List.getElem?_eq_getElem (show k < ss'.length by omega)
        rw [e]; exact congrArg some (getD_of e).symm
      obtain ⟨q9, eq9, hq9⟩ := SnT.2 k _ es
      refine ⟨_, rfl, _, rfl, pS, sv', (k : Int), .ref q9, rfl, rfl, SqL.of eST, atI_nat eq9, q9, _, rfl, SqT.of hq9, rfl, _, _, rfl, _, _, rfl, rfl, ?_⟩
      dsimp only [List.set]
      refine ⟨_, rfl, _, rfl, p2, _, rfl, .inr (SqT.of e2T), rfl, List.all_eq_true.mpr fun z hz => by obtain ⟨z', _, rfl⟩ := List.mem_map.mp hz; rfl, _, rfl, ?_⟩
      show (if (inV (V.int (k : Int)) (crew.map V.int)) = true then _ else _)
      rw [in_ints]
      have eo : ss[k]? = some (sAt ss k) := by
        have e := List.getElem?_eq_getElem (show k < ss.length by omega)
        rw [e]; exact congrArg some (getD_of e).symm
      obtain ⟨q1, q2, q3⟩ := Stn.2 k _ _ ej eo
      have lsv : sv'.length = js.length := by rw [SnT.1]; exact ls'
      have lT : (ts'.map V.int).length = js.length := by rw [List.length_map]; exact lt'
      have get1 : ts'[k]? = some (ts.getD k 0) := by
        rw [← pt1]
        have e := List.getElem?_eq_getElem (show k < ts'.length by omega)
        rw [e]; exact congrArg some (getD_of e).symm
      -- what a change of the two lists brings
      have fin : ∀ (tv : Int) (sx : Int × Int) (HB : Hp) (ts2 : List Int) (qn : Addr) (v6 v11 v12 v13 v14 : Option V), tv = stepT crew ts k → sx = stepS late crew js ts ss k → Same H1 HB → Tups HA HB → HB pt = some (.lst (ts2.map V.int)) → ts2 = ts'.set k tv → HB pS = some (.lst sv') → HB pl = some (.lst (us ++ [.ref p4])) → HB qn = some (.tup [.int sx.1, .int sx.2]) →
          Same H1 (upd HB pS (.lst (sv'.set k (.ref qn)))) ∧ ∃ (ts' : List Int) (sv9 : List V) (ss' : List (Int × Int)) (w6 w11 w12 w13 w14 : Option V), (upd HB pS (.lst (sv'.set k (.ref qn)))) pt = some (.lst (ts'.map V.int)) ∧ (upd HB pS (.lst (sv'.set k (.ref qn)))) pS = some (.lst sv9) ∧ (upd HB pS (.lst (sv'.set k (.ref qn)))) pl = some (.lst (us ++ [.ref p4])) ∧ (upd HB pS (.lst (sv'.set k (.ref qn)))) p2 = some (.tup (crew.map V.int)) ∧ ts'.length = js.length ∧ ss'.length = js.length ∧ StV (upd HB pS (.lst (sv'.set k (.ref qn)))) sv9 ss' ∧ RowT (upd HB pS (.lst (sv'.set k (.ref qn)))) (us ++ [.ref p4]) (rows ++ [sortI crew]) ∧
          (∀ i, i < js.length → ts'.getD i 0 = (if i < k + 1 then stepT crew ts i else ts.getD i 0) ∧ sAt ss' i = (if i < k + 1 then stepS late crew js ts ss i else sAt ss i)) ∧ [some (.ref a), some (.str x), some (.ref pd), some (.int (f : Int)), some (.ref pp), some (.ref pt), v6, some (.ref pS), some (.ref pl), some (.int (m : Int)), some (.ref p2), v11, v12, v13, v14] = [some (V.ref a), some (.str x), some (.ref pd), some (.int (f : Int)), some (.ref pp), some (.ref pt), w6, some (.ref pS), some (.ref pl), some (.int (m : Int)), some (.ref p2), w11, w12, w13, w14] := by
        intro tv sx HB ts2 qn v6 v11 v12 v13 v14 htv hsx sB tB etB hts2 eSB elB eqn
        have pB : Tups HB (upd HB pS (.lst (sv'.set k (.ref qn)))) := Tups.put eSB
        refine ⟨fun c o e => by rw [upd_ne (ne_of_none e npS)]; exact sB _ _ e, ts2, sv'.set k (.ref qn), ss'.set k sx, _, _, _, _, _, by rw [upd_ne ntS]; exact etB, upd_same, by rw [upd_ne nSl.symm]; exact elB, pB _ _ (tB _ _ e2T), by rw [hts2, List.length_set]; exact lt', by rw [List.length_set]; exact ls', ⟨by rw [List.length_set, List.length_set]; exact SnT.1, fun i s h => ?_⟩, (RnT.tups tB).tups pB, fun i hi => ?_, rfl⟩
        · by_cases e : k = i
          · subst e
            rw [List.getElem?_set_self (by omega)] at h
            cases Option.some.inj h
            exact ⟨qn, List.getElem?_set_self (by omega), pB _ _ eqn⟩
          · rw [List.getElem?_set_ne e] at h
            obtain ⟨q5, h1, h2⟩ := SnT.2 i s h
            exact ⟨q5, by rw [List.getElem?_set_ne e]; exact h1, pB _ _ (tB _ _ h2)⟩
        · obtain ⟨r1, r2⟩ := pw9 i hi
          by_cases e : k = i
          · subst e
            rw [if_pos (Nat.lt_succ_self _), if_pos (Nat.lt_succ_self _), ← htv, ← hsx, hts2]
            exact ⟨getD_of (List.getElem?_set_self (by omega)), getD_of (List.getElem?_set_self (by omega))⟩
          · have e1 : (ts'.set k tv).getD i 0 = ts'.getD i 0 := by rw [List.getD_eq_getElem?_getD, List.getElem?_set_ne e, ← List.getD_eq_getElem?_getD]
            have e2 : (ss'.set k sx).getD i (0, 0) = ss'.getD i (0, 0) := by rw [List.getD_eq_getElem?_getD, List.getElem?_set_ne e, ← List.getD_eq_getElem?_getD]
            rw [hts2, e1]
            show _ ∧ (ss'.set k sx).getD i (0, 0) = _
            rw [e2]
            by_cases e3 : i < k
            · rw [if_pos e3] at r1 r2
              rw [if_pos (show i < k + 1 by omega), if_pos (show i < k + 1 by omega)]
              exact ⟨r1, r2⟩
            · rw [if_neg e3] at r1 r2
              rw [if_neg (show ¬ i < k + 1 by omega), if_neg (show ¬ i < k + 1 by omega)]
              exact ⟨r1, r2⟩
      by_cases cc : (k : Int) ∈ crew
      · rw [decide_eq_true cc]
        refine iteT ?_
        have np2 : ∀ {o}, HA p2 = some o → p2 ≠ pt := fun {o} _ z => by rw [z, etT] at e2T; cases e2T
        have gk := n0 k kl
        refine ⟨_, rfl, _, rfl, pt, _, k, .int (ts.getD k 0), rfl, rfl, etT, by rw [List.getElem?_map, get1]; rfl, _, _, rfl, rfl, pt, _, (k : Int), k, rfl, rfl, etT, place_nat (by omega), ?_⟩
        have et1 : (ts'.map V.int).set k (.int (ts.getD k 0 + 1)) = (ts'.set k (ts.getD k 0 + 1)).map V.int := by rw [List.map_set]
        have sB : Same H1 (upd HA pt (.lst ((ts'.map V.int).set k (.int (ts.getD k 0 + 1))))) := fun z o e => by rw [upd_ne (ne_of_none e npt)]; exact snT _ _ e
        have tB : Tups HA (upd HA pt (.lst ((ts'.map V.int).set k (.int (ts.getD k 0 + 1))))) := Tups.put etT
        have etB : (upd HA pt (.lst ((ts'.map V.int).set k (.int (ts.getD k 0 + 1))))) pt = some (.lst ((ts'.set k (ts.getD k 0 + 1)).map V.int)) := by rw [upd_same, et1]
        have eSB : (upd HA pt (.lst ((ts'.map V.int).set k (.int (ts.getD k 0 + 1))))) pS = some (.lst sv') := by rw [upd_ne ntS.symm]; exact eST
        have elB : (upd HA pt (.lst ((ts'.map V.int).set k (.int (ts.getD k 0 + 1))))) pl = some (.lst (us ++ [.ref p4])) := by rw [upd_ne ntl.symm]; exact elT
        revert sB tB etB eSB elB
        generalize upd HA pt (.lst ((ts'.map V.int).set k (.int (ts.getD k 0 + 1)))) = HB
        intro sB tB etB eSB elB
        have edk : ds[k]? = some (ds[k]'(by omega)) := List.getElem?_eq_getElem _
        obtain ⟨d, kvs, ed, hd, hv⟩ := hds.2 k _ edk
        rw [ed] at edk
        have hdB := sB _ _ (s1 _ _ hd)
        have gtB : (ts'.set k (ts.getD k 0 + 1))[k]? = some (ts.getD k 0 + 1) := List.getElem?_set_self (by omega)
        refine ⟨_, rfl, _, rfl, pd, ds, (k : Int), .ref d, rfl, rfl, sB.seq (s1.seq hpd), atI_nat edk, d, rfl, .inl ⟨kvs, .inl hdB⟩, _, rfl, _, rfl, pt, _, (k : Int), .int (ts.getD k 0 + 1), rfl, rfl, SqL.of etB, atI_nat (by rw [List.getElem?_map, gtB]; rfl), _, DGet.k (k := .inl (ts.getD k 0 + 1)) hdB, ?_⟩
        rw [hv (ts.getD k 0 + 1)]
        dsimp only [List.set]
        have PcB := Pc.mono sB
        obtain ⟨dx, fs, g1, _, ⟨pg, g4, g5⟩, _, g8⟩ := id PcB.ex
        obtain ⟨pl0, hp0⟩ := Int.eq_ofNat_of_zero_le q1
        have plt : pl0 < (jAt js k).2.1 := by omega
        have egap : (gapsL (jAt js k).2.1 (jAt js k).2.2)[pl0]? = some (gapA (jAt js k) (pl0 : Int)) := by
          unfold gapsL
          rw [List.getElem?_map, List.getElem?_range plt]; rfl
        obtain ⟨k1, k2, k3, k4⟩ := gk
        refine ⟨_, rfl, c, dx, fs, rfl, g1, g8, _, rfl, c, r, (jAt js k).2.1, (jAt js k).2.2, spanN js, (sAt ss k).1, rfl, PcB, by omega, by omega, ?_⟩
        refine ⟨_, rfl, _, _, rfl, rfl, _, rfl, c, CQ, dx, fs, _, rfl, g1, PC.cl, PC.ngaps, g4, _, rfl, pg, _, (sAt ss k).1, .int (gapA (jAt js k) (pl0 : Int)), rfl, rfl, g5, by rw [hp0]; exact atI_nat (by rw [List.getElem?_map, egap]; rfl), _, _, rfl, rfl, _, rfl, _, _, rfl, rfl, by show 2 ≤ sizeLine; decide, fun qn hqn => ?_⟩
        have sQ := same_new (o := .tup [V.int (((sAt ss k).1 + 1) % ((jAt js k).2.1 : Int)), .int ((sAt ss k).2 + 1 - gapA (jAt js k) (pl0 : Int) - late k (ts.getD k 0 + 1))]) hqn
        refine ⟨_, rfl, _, rfl, pS, sv', (k : Int), k, rfl, rfl, sQ _ _ eSB, place_nat (by omega), ?_⟩
        refine fin (ts.getD k 0 + 1) (((sAt ss k).1 + 1) % ((jAt js k).2.1 : Int), (sAt ss k).2 + 1 - gapA (jAt js k) (sAt ss k).1 - late k (ts.getD k 0 + 1)) _ (ts'.set k (ts.getD k 0 + 1)) qn _ _ _ _ _ ?_ ?_ (sB.trans sQ) (tB.trans (Tups.of sQ)) (sQ _ _ etB) rfl (sQ _ _ eSB) (sQ _ _ elB) ?_
        · unfold stepT; rw [if_pos cc]
        · unfold stepS; rw [if_pos cc]
        · rw [hp0]; exact upd_same
      · rw [decide_eq_false cc]
        refine iteF ?_
        refine ⟨_, rfl, _, rfl, _, _, rfl, rfl, by show 2 ≤ sizeLine; decide, fun qn hqn => ?_⟩
        have sQ := same_new (o := .tup [V.int (sAt ss k).1, .int ((sAt ss k).2 + 1)]) hqn
        refine ⟨_, rfl, _, rfl, pS, sv', (k : Int), k, rfl, rfl, sQ _ _ eST, place_nat (by omega), ?_⟩
        refine fin (ts.getD k 0) ((sAt ss k).1, (sAt ss k).2 + 1) _ ts' qn _ _ _ _ _ ?_ ?_ (snT.trans sQ) (Tups.of sQ) (sQ _ _ etT) ?_ (sQ _ _ eST) (sQ _ _ elT) upd_same
        · unfold stepT; rw [if_neg cc]
        · unfold stepS; rw [if_neg cc]
        · refine List.ext_getElem? fun i => ?_
          by_cases e : k = i
          · subst e; rw [List.getElem?_set_self (by omega), get1]
          · rw [List.getElem?_set_ne e]
    clear sn8 et8 eS8 el8 e28 Sn8 Rn8
    rintro σ H9 ⟨sn9, ts', sv', ss', v6, v11, v12, v13, v14, et9, eS9, el9, e29, lt', ls', Sn9, Rn9, pw9, rfl⟩
    have eT : ts' = stepTs crew js ts := by
      refine List.ext_getElem? fun i => ?_
      unfold stepTs
      rcases Nat.lt_or_ge i js.length with hi | hi
      · obtain ⟨r1, _⟩ := pw9 i hi
        rw [if_pos (by rw [P1.1]; exact hi)] at r1
        rw [List.getElem?_map, List.getElem?_range hi, List.getElem?_eq_getElem (show i < ts'.length by omega)]
        show _ = some (stepT crew ts i)
        rw [← r1, getD_of (List.getElem?_eq_getElem (show i < ts'.length by omega))]
      · rw [List.getElem?_eq_none (by omega), List.getElem?_eq_none (by rw [List.length_map, List.length_range]; exact hi)]
    have eS : ss' = stepSs late crew js ts ss := by
      refine List.ext_getElem? fun i => ?_
      unfold stepSs
      rcases Nat.lt_or_ge i js.length with hi | hi
      · obtain ⟨_, r2⟩ := pw9 i hi
        rw [if_pos (by rw [P1.1]; exact hi)] at r2
        rw [List.getElem?_map, List.getElem?_range hi, List.getElem?_eq_getElem (show i < ss'.length by omega)]
        show _ = some (stepS late crew js ts ss i)
        rw [← r2]
        exact congrArg some (getD_of (List.getElem?_eq_getElem (show i < ss'.length by omega))).symm
      · rw [List.getElem?_eq_none (by omega), List.getElem?_eq_none (by rw [List.length_map, List.length_range]; exact hi)]
    -- what is missed
    subst eT eS
    have efm : f - m = (f - (m + 1)) + 1 := by omega
    have ePL := hplay
    rw [efm, playN_succ, hcr] at ePL
    have ls9 : sv'.length = js.length := by rw [Sn9.1]; exact ls'
    refine ⟨_, rfl, pS, sv', rfl, SqL.of eS9, for_it walk_enum (fun k σ Hn => Same H9 Hn ∧ ∃ (v11 v12 v13 v14 : Option V), (∀ i, i < k → missB js (stepSs late crew js ts ss) i = false) ∧ σ = [some (.ref a), some (.str x), some (.ref pd), some (.int (f : Int)), some (.ref pp), some (.ref pt), v6, some (.ref pS), some (.ref pl), some (.int (m : Int)), some (.ref p2), v11, v12, v13, v14])
      ⟨fun _ _ z => z, _, _, _, _, fun i hi => absurd hi (Nat.not_lt_zero _), rfl⟩ (fun _ _ _ _ z => SqL.of (z.1 _ _ eS9)) ?_ ?_⟩
    · rintro k y σ HC HC' hk ⟨sC, v11, v12, v13, v14, no, rfl⟩ ⟨T9, y1, y2, rfl, hT, rfl, ey, ez⟩
      dsimp only at ey ez
      cases ey
      have kl : k < js.length := by omega
      have es : (stepSs late crew js ts ss)[k]? = some (sAt (stepSs late crew js ts ss) k) := by
        have e := List.getElem?_eq_getElem (show k < (stepSs late crew js ts ss).length by omega)
        rw [e]; exact congrArg some (getD_of e).symm
      obtain ⟨q9, eq9, hq9⟩ := Sn9.2 k _ es
      rw [ez] at eq9
      cases Option.some.inj eq9
      have sT : Same HC (upd HC T9 (.tup [.int (k : Int), .ref q9])) := same_new hT
      have sCT := sC.trans sT
      have s1T := sn9.trans sCT
      have ej : js[k]? = some (jAt js k) := by
        have e := List.getElem?_eq_getElem kl
        rw [e]; exact congrArg some (getD_of e).symm
      have exk : xs[k]? = some (xs[k]'(by rw [P1.1]; exact kl)) := List.getElem?_eq_getElem _
      obtain ⟨c, exc, Pc⟩ := P1.2 k _ _ exk ej
      rw [exc] at exk
      have PcT := Pc.mono s1T
      obtain ⟨dx, fs, g1, ⟨pg, g2, g3⟩, _, _, g8⟩ := id PcT.ex
      refine ⟨T9, _, rfl, SqT.of upd_same, rfl, _, _, rfl, _, _, rfl, q9, _, rfl, SqT.of (sCT _ _ hq9), rfl, _, _, rfl, _, _, rfl, rfl, rfl, ?_⟩
      dsimp only [List.set]
      obtain ⟨w1, w2⟩ := step_place (late := late) (crew := crew) (ts := ts) G Stn kl
      have mB : missB js (stepSs late crew js ts ss) k = decide ((sAt (stepSs late crew js ts ss) k).2 = lenA (jAt js k) (sAt (stepSs late crew js ts ss) k).1) := rfl
      revert mB w1 w2 hq9 es
      generalize hS9 : sAt (stepSs late crew js ts ss) k = S9
      intro es hq9 w1 w2 mB
      obtain ⟨pl0, hp0⟩ := Int.eq_ofNat_of_zero_le w1
      have plt : pl0 < (jAt js k).2.1 := by omega
      have elen : (lensL (jAt js k).2.1 (jAt js k).2.2)[pl0]? = some (lenA (jAt js k) (pl0 : Int)) := by
        unfold lensL
        rw [List.getElem?_map, List.getElem?_range plt]; rfl
      refine ⟨_, rfl, _, rfl, _, rfl, pp, xs, (k : Int), .ref c, rfl, rfl, SqL.of (s1T _ _ e1), atI_nat exk, c, CQ, dx, fs, _, rfl, g1, PC.cl, PC.nlengths, g2, _, rfl, pg, _, S9.1, .int (lenA (jAt js k) (pl0 : Int)), rfl, rfl, g3, by rw [hp0]; exact atI_nat (by rw [List.getElem?_map, elen]; rfl), rfl, _, rfl, ?_⟩
      have ed : decide (V.int S9.2 = V.int (lenA (jAt js k) (pl0 : Int))) = missB js (stepSs late crew js ts ss) k := by
        rw [mB, hp0]
        exact decide_eq_decide.mpr ⟨fun z => V.int.inj z, fun z => congrArg V.int z⟩
      rw [ed]
      cases hmB : missB js (stepSs late crew js ts ss) k with
      | false =>
        refine iteF ⟨sCT, _, _, _, _, fun i hi => ?_, rfl⟩
        rcases Nat.lt_or_ge i k with z | z
        · exact no i z
        · have : i = k := by omega
          subst this; exact hmB
      | true =>
        refine iteT ?_
        have hfind : missL js (stepSs late crew js ts ss) = some k := by
          unfold missL
          rw [List.find?_eq_some_iff_getElem]
          refine ⟨hmB, k, by rw [List.length_range]; exact kl, List.getElem_range _, fun i hi => ?_⟩
          rw [List.getElem_range, no i hi]; rfl
        rw [hfind] at ePL
        have ePL : playN late r n (spanN js) js f 0 ts0 ss0 = (rows ++ [sortI crew], some ((m : Int) + 1, k, (stepTs crew js ts).getD k 0)) := ePL
        rw [ePL] at q
        have LT := L.mono (s1.trans s1T)
        obtain ⟨dx9, pn, ps9, pt9, ha, nm, _, _⟩ := id LT.ex
        have ett := sCT _ _ et9
        have ell := sCT _ _ el9
        have RnT := Rn9.mono sCT
        refine ⟨_, rfl, pl, _, rfl, .inl ⟨SqL.of ell, fun p5 hp5 => ?_⟩⟩
        have s5 := same_new (o := .tup (us ++ [.ref p4])) hp5
        refine ⟨_, rfl, _, _, rfl, rfl, _, rfl, lot_get (s5 _ _ ha) lot_names ⟨_, rfl, pn, _, (k : Int), .str (jAt js k).1, rfl, rfl, (nm.mono s5).seq, atI_nat (by rw [List.getElem?_map, List.getElem?_map, ej]; rfl), _, rfl, _, rfl, pt, _, (k : Int), .int ((stepTs crew js ts).getD k 0), rfl, rfl, SqL.of (s5 _ _ ett), atI_nat (by
          rw [List.getElem?_map]
          have e := List.getElem?_eq_getElem (show k < (stepTs crew js ts).length by omega)
          rw [e, ← getD_of (d := 0) e]; rfl), by show 3 ≤ sizeLine; decide, fun p6 hp6 => ⟨by show 2 ≤ sizeLine; decide, fun p7 hp7 => ?_⟩⟩⟩
        have s6 := same_new (o := .tup [.int ((m : Int) + 1), .str (jAt js k).1, .int ((stepTs crew js ts).getD k 0)]) hp6
        have s7 := same_new (o := .tup [.ref p5, .ref p6]) hp7
        refine q p7 p5 (us ++ [.ref p4]) (.ref p6) _ ((s1.trans s1T).trans ((s5.trans s6).trans s7)) upd_same ((s6.trans s7) _ _ upd_same) (RnT.mono ((s5.trans s6).trans s7)) ⟨p6, kl, rfl, s7 _ _ upd_same⟩
    rintro σ HC ⟨sC, v11, v12, v13, v14, no, rfl⟩
    have hfind : missL js (stepSs late crew js ts ss) = none := by
      unfold missL
      rw [List.find?_eq_none]
      intro i hi
      rw [no i (by rw [ls9]; exact List.mem_range.mp hi)]; decide
    rw [hfind] at ePL
    have ePL : playN late r n (spanN js) js f 0 ts0 ss0 = (rows ++ sortI crew :: (playN late r n (spanN js) js (f - (m + 1)) ((m : Int) + 1) (stepTs crew js ts) (stepSs late crew js ts ss)).1, (playN late r n (spanN js) js (f - (m + 1)) ((m : Int) + 1) (stepTs crew js ts) (stepSs late crew js ts ss)).2) := ePL
    have em1 : ((m + 1 : Nat) : Int) = (m : Int) + 1 := by omega
    refine ⟨sn9.trans sC, _, sv', us ++ [.ref p4], _, rows ++ [sortI crew], _, _, _, _, _, _, _, sC _ _ et9, sC _ _ eS9, sC _ _ el9, lt', Sn9.tups (Tups.of sC), ?_, Rn9.mono sC, by rw [List.length_append, lu]; rfl, ?_, rfl⟩
    · subst hcr
      exact stand_step G hl Stn hfind
    · rw [em1, ePL, List.append_assoc]; rfl
  · rintro σ Hn ⟨sn, ts, sv, us, ss, rows, v6, v9, v10, v11, v12, v13, v14, et, eS, el, lt9, Sn, Stn, Rn, lu, hplay, rfl⟩
    rw [Int.toNat_natCast, Nat.sub_self] at hplay
    have hplay : playN late r n (spanN js) js f 0 ts0 ss0 = (rows ++ [], none) := hplay
    rw [List.append_nil] at hplay
    rw [hplay] at q
    refine ⟨_, rfl, pl, _, rfl, .inl ⟨SqL.of el, fun p5 hp5 => ⟨by show 2 ≤ sizeLine; decide, fun p7 hp7 => ?_⟩⟩⟩
    have s5 := same_new (o := .tup us) hp5
    have s7 := same_new (o := .tup [.ref p5, .non]) hp7
    exact q p7 p5 us .non _ ((s1.trans sn).trans (s5.trans s7)) upd_same (s7 _ _ upd_same) (Rn.mono (s5.trans s7)) rfl
end
end Ts
namespace Ts
open PySem PySem.Spec PyProof.Rows L2
section
variable {P : Program} {w : World} {K : PySem.W.Frag} {mg : Str → Option Value} {base : Heap}
theorem has_is_rule {AU : Addr} (D : DefAt K mg "is_rule" s_is_rule) (B : Blt0 mg) (gU : mg "RULES" = some (.ref AU)) (hU : ∀ H : Hp, SqT K H AU (ruleW.map V.str)) : Has P w K mg base 1 "is_rule" ["value"] (spIsRule K) := by
  refine D.has (fun _ _ _ _ _ _ us hl => match us, hl with | [_], _ => rfl) fun f fd F => F.ok sc_is_rule (fun vs H Q E h => ?_) (fun cdv A outer s H vs Q E hr h => ?_)
  · obtain ⟨x, o, rfl, _⟩ := h; rfl
  obtain ⟨x, o, rfl, hx, q⟩ := h
  refine ⟨_, (pss_one (ps_ret (pe_and (pe_callB call_isi (by rfl) B.zisinstance (by decide +kernel) (pa_cons (pv 0) (pa_cons (pe_ty "str" B.zstr) pa_nil))) (pe_one (pe_cmpR op_in_seq (pv 0) (pe_gref gU) (by rfl)))))), ?_⟩
  have inW : ∀ s : Str, inV (V.str s) (ruleW.map V.str) = decide (s ∈ ruleW) := fun s => by
    by_cases e : s ∈ ruleW
    · rw [decide_eq_true e]
      exact List.any_eq_true.mpr ⟨.str s, List.mem_map.mpr ⟨s, e, rfl⟩, by show (s == s) = true; exact beq_self_eq_true _⟩
    · rw [decide_eq_false e]
      refine Bool.eq_false_iff.mpr fun z => ?_
      obtain ⟨y, hy, z2⟩ := List.any_eq_true.mp z
      obtain ⟨s', hs', rfl⟩ := List.mem_map.mp hy
      have : s' = s := by
        have z3 : (s' == s) = true := z2
        exact eq_of_beq z3
      exact e (this ▸ hs')
  have str : ∀ s : Str, o.isSome = decide (s ∈ ruleW) → rIn K false (.str s) (.ref AU) H Q := fun s eo => by
    refine ⟨AU, _, rfl, .inr (hU H), rfl, by decide, ?_⟩
    show Q (.bl (inV (V.str s) (ruleW.map V.str))) H
    rw [inW, ← eo]
    exact q
  cases o with
  | some r =>
    obtain ⟨s, rfl, hs⟩ := hx
    exact ⟨_, rfl, _, _, _, _, _, rfl, .ty "str", .base (.str s), kit_ty (r := true) (by decide +kernel), true, rfl, iteT ⟨_, rfl, str s (by rw [decide_eq_true (List.mem_of_getElem? hs)]; rfl)⟩⟩
  | none =>
    rcases hx with ⟨s, rfl, hs⟩ | ⟨T9, h1, h2⟩
    · exact ⟨_, rfl, _, _, _, _, _, rfl, .ty "str", .base (.str s), kit_ty (r := true) (by decide +kernel), true, rfl, iteT ⟨_, rfl, str s (by rw [decide_eq_false hs]; rfl)⟩⟩
    · have kt : PySem.W.kitOne K (.type T9) (.type "str") = some false := by
        have go : ∀ T ∈ ["int", "bool", "NoneType", "list", "tuple", "dict"], kitB T "str" = some false := by decide +kernel
        exact kit_ty (go T9 h1)
      exact ⟨_, rfl, _, _, _, _, _, rfl, .ty "str", h2, kt, false, rfl, iteF q⟩
theorem hx_check_rule {CR : Addr} (D : DefAt K mg "check_rule" s_check_rule) (T_InvalidRule : ErrB P w K mg base "InvalidRule" CR "given") (h_is_rule : Has P w K mg base 1 "is_rule" ["value"] (spIsRule K)) : HasX P w K mg base 3 "check_rule" ["rule"] (spCheckRuleX K CR) := by
  refine D.hasX (fun _ _ _ _ _ _ us hl => match us, hl with | [_], _ => rfl) fun f fd F => F.okX sc_check_rule (fun vs H Q E h => ?_) (fun cdv A outer s H vs Q E hr h => ?_)
  · obtain ⟨x, o, rfl, _⟩ := h; rfl
  obtain ⟨x, o, rfl, hx, q1, q2⟩ := h
  have tk := takes_of (X := cxOf (L2.CX P w) P w K mg base ["rule"] "check_rule" (defScope s_check_rule) f cdv A outer s H E) (E := E) rfl rfl rfl rfl
  refine ⟨_, (pss_one (ps_if (pt_not (pt_val (pe_h h_is_rule (hr.mono (by decide)) (pa_cons (pv 0) pa_nil)))) (pss_one (ps_raise rfl tk (pmk_errB T_InvalidRule (hr.mono (by decide)) (pv 0)))) pss_nil)), ?_⟩
  refine ⟨_, rfl, x, o, rfl, hx, _, rfl, ?_⟩
  cases o with
  | some r => exact iteF (q1 rfl)
  | none => exact iteT ⟨_, rfl, mk_err fun d hd => q2 rfl H d (fun _ _ z => z) hd⟩
end
end Ts
namespace Ts
open PySem PySem.Spec PyProof.Rows L2 L2H LamX
section
variable {P : Program} {w : World} {K : PySem.W.Frag} {mg : Str → Option Value} {base : Heap}
theorem has_is_late {C : Addr} (D : DefAt K mg "_is_late" s__is_late) (B : Blt0 mg) (T : LotC K mg C) (p_names : PropH P w K mg base C "names" "_names") (MT : ∃ t, mg "MOST_LATE_TURN" = some (.int (10 ^ 6) t)) (MB : ∃ t, mg "MOST_LATE_BY" = some (.int (10 ^ 6) t)) (h_is_number : Has P w K mg base 2 "is_number" ["value", "low", "high"] (spIsNumberA K)) : Has P w K mg base 3 "_is_late" ["lot", "value"] (spIsLate K C) := by
  refine D.has (fun _ _ _ _ _ _ us hl => match us, hl with | [_, _], _ => rfl) fun f fd F => F.ok sc__is_late (fun vs H Q E h => ?_) (fun cdv A outer s H vs Q E hr h => ?_)
  · obtain ⟨a, n, js, v, d, rfl, _⟩ := h; rfl
  obtain ⟨a, n, js, v, d, rfl, L, hv, q⟩ := h
  obtain ⟨dx, pn, ps, pt, ha, h1, h2, h3⟩ := L.ex
  refine ⟨_, (pss_cons (ps_if (PW.pt (pw_or (pt_not (pt_val (pe_callB call_isi (by rfl) B.zisinstance (by decide +kernel) (pa_cons (pv 1) (pa_cons (pe_ty "tuple" B.ztuple) pa_nil))))) (pw_or1 (pt_cmpR op_ne (pe_callB call_len_seq (by rfl) B.zlen (by decide +kernel) (pa_cons (pv 1) pa_nil)) pe_int (nomark _))))) (pss_one (ps_ret pe_bl)) pss_nil)
      (pss_cons (ps_asg (pv 1) (pg_tup rfl (pgs_cons (pg_name (i := 2) sc__is_late.nd rfl (.inl rfl)) (pgs_cons (pg_name (i := 3) sc__is_late.nd rfl (.inl rfl)) (pgs_cons (pg_name (i := 4) sc__is_late.nd rfl (.inl rfl)) pgs_nil)))))
      (pss_cons (ps_if (PW.pt (pw_or (pt_not (pt_val (pe_callB call_isi (by rfl) B.zisinstance (by decide +kernel) (pa_cons (pv 2) (pa_cons (pe_ty "str" B.zstr) pa_nil))))) (pw_or1 (pt_cmpR op_notIn_seq (pv 2) (pe_ph p_names T.cl (hr.mono (by decide)) (pv 0)) (by rfl))))) (pss_one (ps_ret pe_bl)) pss_nil)
      (pss_one (ps_ret (pe_and (pe_h h_is_number (hr.mono (by decide)) (pa_cons (pv 3) (pa_cons pe_int (pa_cons (pe_gint MT) pa_nil)))) (pe_one (pe_h h_is_number (hr.mono (by decide)) (pa_cons (pv 4) (pa_cons pe_int (pa_cons (pe_gint MB) pa_nil))))))))))), ?_⟩
  have e6 : ((10 : Int) ^ 6) = 1000000 := by decide
  by_cases tt : tyN (some d) = "tuple"
  · obtain ⟨ds, e⟩ := tyN_tup tt
    cases e
    clear tt
    obtain ⟨p, xs, rfl, hS, hA⟩ := hv.tuple
    refine ⟨_, rfl, _, _, _, _, _, rfl, .ty "tuple", sqt_ty37 hS, kit_ty (r := true) (by decide +kernel), true, rfl, iteF ?_⟩
    refine ⟨_, rfl, p, _, rfl, .inr hS, rfl, _, rfl, ?_⟩
    by_cases l3 : xs.length = 3
    · have e3 : (!decide (V.int (xs.length : Int) = V.int 3)) = false := by rw [l3]; rfl
      rw [e3]
      refine iteF ?_
      obtain ⟨x, y, z, rfl⟩ : ∃ x y z, xs = [x, y, z] := by
        match xs, l3 with
        | [x, y, z], _ => exact ⟨x, y, z, rfl⟩
      obtain ⟨dx9, dy, dz, rfl, hx, hy, hz⟩ : ∃ a b c, ds = [a, b, c] ∧ Dp K H x a ∧ Dp K H y b ∧ Dp K H z c := by
        cases hA with
        | cons h1 hA => cases hA with
          | cons h2 hA => cases hA with
            | cons h3 hA => cases hA; exact ⟨_, _, _, rfl, h1, h2, h3⟩
      refine ⟨_, rfl, p, _, rfl, hS, rfl, _, _, rfl, _, _, rfl, _, _, rfl, rfl, ?_⟩
      have q : Q (.bl (inN js (some dx9) && (inRg (kindD dy) 1 1000000 && inRg (kindD dz) 1 1000000))) H := q
      by_cases ts : tyN (some dx9) = "str"
      · obtain ⟨t, e⟩ := tyN_str ts
        cases e
        cases (show Dp K H x (.str t) from hx)
        refine ⟨_, rfl, _, _, _, _, _, rfl, .ty "str", .base (.str t), kit_ty (r := true) (by decide +kernel), true, rfl, ?_⟩
        refine iteF ⟨_, rfl, _, rfl, lot_get ha lot_names ⟨pn, _, rfl, .inr h1.seq, rfl, flat_strs _, _, rfl, ?_⟩⟩
        rw [inV_strs]
        have e : inN js (some (.str t)) = decide (t ∈ js.map (·.1)) := rfl
        rw [e] at q
        cases e2 : decide (t ∈ js.map (·.1)) with
        | false => rw [e2] at q; exact iteT q
        | true =>
          rw [e2, Bool.true_and] at q
          refine iteF ⟨_, rfl, y, 1, 10 ^ 6, kindD dy, rfl, dp_kind hy, _, rfl, ?_⟩
          rw [e6]
          cases e4 : inRg (kindD dy) 1 1000000 with
          | false => rw [e4] at q; exact iteF q
          | true => rw [e4, Bool.true_and] at q; exact iteT ⟨_, rfl, z, 1, 10 ^ 6, kindD dz, rfl, dp_kind hz, by rw [e6]; exact q⟩
      · have en : inN js (some dx9) = false := by
          unfold inN
          split
          · rename_i s9 e9
            cases e9
            exact absurd rfl ts
          · rfl
        rw [en] at q
        exact ⟨_, rfl, _, _, _, _, _, rfl, .ty "str", (show AnyV K H x (some dx9) from hx).ty, no_str ts, false, rfl, iteT (iteT q)⟩
    · have e3 : (!decide (V.int (xs.length : Int) = V.int 3)) = true := by
        rw [decide_eq_false fun z => by have := V.int.inj z; omega]; rfl
      rw [e3]
      have q2 : isLateB js (.tuple ds) = false := by
        unfold isLateB
        split
        · rename_i a9 x9 y9 e9
          cases e9
          have := hA.length
          exact absurd this l3
        · rfl
      rw [q2] at q
      exact iteT q
  · have q2 : isLateB js d = false := by
      unfold isLateB
      split
      · exact absurd rfl tt
      · rfl
    rw [q2] at q
    exact ⟨_, rfl, _, _, _, _, _, rfl, .ty "tuple", (show AnyV K H v (some d) from hv).ty, no_tup tt, false, rfl, iteT (iteT q)⟩
theorem hx_check_lates {C CI : Addr} (D : DefAt K mg "check_lates" s_check_lates) (B : Blt0 mg) (ML : ∃ t, mg "MOST_LATES" = some (.int 200 t)) (T_InvalidLates : ErrB P w K mg base "InvalidLates" CI "index") (h__is_late : Has P w K mg base 3 "_is_late" ["lot", "value"] (spIsLate K C)) : HasX P w K mg base 4 "check_lates" ["lot", "lates"] (spCheckLatesX K C CI) := by
  refine D.hasX (fun _ _ _ _ _ _ us hl => match us, hl with | [_, _], _ => rfl) fun f fd F => F.okX sc_check_lates (fun vs H Q E h => ?_) (fun cdv A outer s H vs Q E hr h => ?_)
  · obtain ⟨a, n, js, v, o, rfl, _⟩ := h; rfl
  obtain ⟨a, n, js, v, o, rfl, L, hv, q1, q2⟩ := h
  have tk := takes_of (X := cxOf (L2.CX P w) P w K mg base ["lot", "lates", "before", "index", "late"] "check_lates" (defScope s_check_lates) f cdv A outer s H E) (E := E) rfl rfl rfl rfl
  refine ⟨_, (pss_cons (ps_if (pt_not (pt_val (pe_callB call_isi (by rfl) B.zisinstance (by decide +kernel) (pa_cons (pv 1) (pa_cons (pe_ty "tuple" B.ztuple) pa_nil))))) (pss_one (ps_raise rfl tk (pmk_errB T_InvalidLates (hr.mono (by decide)) pe_non))) pss_nil)
      (pss_cons (ps_set (i := 2) sc_check_lates.nd rfl (.inl rfl) (pe_tup (pa_cons pe_str (pa_cons pe_int pa_nil))))
      (pss_one (ps_for (passes_of rfl) rfl (pi_enumT (by rfl) B.zenumerate (pa_cons (pv 1) pa_nil)) (pg_tup rfl (pgs_cons (pg_name (i := 3) sc_check_lates.nd rfl (.inl rfl)) (pgs_cons (pg_name (i := 4) sc_check_lates.nd rfl (.inl rfl)) pgs_nil))) (pss_cons (ps_if (PW.pt (pw_or (pt_cmpR op_ge (pv 3) (pe_gint ML) (nomark _)) (pw_or (pt_not (pt_val (pe_h h__is_late (hr.mono (by decide)) (pa_cons (pv 0) (pa_cons (pv 4) pa_nil))))) (pw_or1 (pt_cmpR (op_leA (hu64 hr)) (pe_slice sl_tup (pv 4) po_none (po_some pe_int)) (pv 2) (nomark _)))))) (pss_one (ps_raise rfl tk (pmk_errB T_InvalidLates (hr.mono (by decide)) (pv 3)))) pss_nil)
      (pss_one (ps_set (i := 2) sc_check_lates.nd rfl (.inl rfl) (pe_slice sl_tup (pv 4) po_none (po_some pe_int))))))))), ?_⟩
  by_cases tt : tyN o = "tuple"
  · obtain ⟨ds, rfl⟩ := tyN_tup tt
    clear tt
    obtain ⟨p, xs, rfl, hS, hA⟩ := (show Dp K H v (.tuple ds) from hv).tuple
    have lx := hA.length
    refine ⟨_, rfl, _, _, _, _, _, rfl, .ty "tuple", sqt_ty37 hS, kit_ty (r := true) (by decide +kernel), true, rfl, iteF ?_⟩
    refine ⟨by show 2 ≤ sizeLine; decide, fun pb hpb => ?_⟩
    have s1 := same_new (o := .tup [V.str "", .int 0]) hpb
    have d1 : Dp K (upd H pb (.tup [V.str "", .int 0])) (.ref pb) (lateP "" 0) := .tup (SqT.of upd_same) (.cons (.str _) (.cons (.int _) .nil))
    have ew : latesWrong js (some (.tuple ds)) = (badLt js ds 0 (lateP "" 0)).map fun i : Nat => V.int (i : Int) := rfl
    rw [ew] at q1 q2
    clear ew
    refine ⟨_, rfl, p, _, rfl, sameT s1 hS, walk_enumT (K := K) (a := p) (xs := xs) (c := 0) (fun i σ Hn => Same H Hn ∧ i ≤ 200 ∧ ∃ (y : V) (s : Str) (t : Int), Dp K Hn y (lateP s t) ∧ badLt js (ds.drop i) i (lateP s t) = badLt js ds 0 (lateP "" 0) ∧ ∃ v3 v4, σ = [some (.ref a), some (.ref p), some y, v3, v4]) ⟨s1, Nat.zero_le _, .ref pb, "", 0, d1, rfl, _, _, rfl⟩ (fun _ _ _ _ z => sameT z.1 hS) ?_ ?_⟩
    · rintro i x T9 σ H2 hx' ⟨s2, i2, y, s, t, hy, hb, v3, v4, rfl⟩ hT2
      have il : i < ds.length := by rw [← lx]; exact (List.getElem?_eq_some_iff.mp hx').1
      obtain ⟨d, hd, hxd⟩ := hA.get hx'
      have ed : ds[i] = d := by rw [List.getElem?_eq_getElem il] at hd; exact Option.some.inj hd
      rw [List.drop_eq_getElem_cons il, ed] at hb
      have hb : (if 200 ≤ i ∨ isLateB js d = false ∨ PySem.W.dataLt (lateP s t) (pairL d) = false then some i else badLt js (ds.drop (i + 1)) (i + 1) (pairL d)) = badLt js ds 0 (lateP "" 0) := hb
      refine ⟨T9, _, rfl, SqT.of upd_same, rfl, _, _, rfl, _, _, rfl, rfl, ?_⟩
      have sT := same_new (o := .tup [V.int (0 + ((i : Nat) : Int)), x]) hT2
      have s3 := s2.trans sT
      have hy3 := hy.mono sT
      revert s3 hy3
      clear sT
      generalize upd H2 T9 (.tup [.int (0 + ((i : Nat) : Int)), x]) = H3
      intro s3 hy3
      have hx3 := hxd.mono s3
      have raise : ∀ H4, Same H H4 → badLt js ds 0 (lateP "" 0) = some i → ∀ d, H4 d = none → E (.ref CI) (some d) (upd H4 d (.xd [("index", .int (0 + (i : Int)))])) := fun H4 s4 eb d hd => by
        rw [show (0 : Int) + (i : Int) = (i : Int) by omega]
        exact q2 _ (by rw [eb]; rfl) H4 d s4 hd
      by_cases c : i = 200
      · rw [if_pos (.inl (by omega))] at hb
        refine ⟨_, rfl, _, _, rfl, rfl, _, rfl, ?_⟩
        rw [decide_eq_true (show (200 : Int) ≤ 0 + (i : Int) by omega)]
        exact iteT (iteT ⟨_, rfl, mk_err fun d hd => raise H3 s3 hb.symm d hd⟩)
      · refine ⟨_, rfl, _, _, rfl, rfl, _, rfl, ?_⟩
        rw [decide_eq_false (show ¬ (200 : Int) ≤ 0 + (i : Int) by omega)]
        refine iteF ⟨_, rfl, _, rfl, a, n, js, x, d, rfl, L.mono s3, hx3, _, rfl, ?_⟩
        cases el : isLateB js d with
        | false =>
          rw [if_pos (.inr (.inl el))] at hb
          exact iteT (iteT ⟨_, rfl, mk_err fun d hd => raise H3 s3 hb.symm d hd⟩)
        | true =>
          obtain ⟨r, rfl, hr9⟩ := isLate_is el
          obtain ⟨px, ws, rfl, hSx, hAx⟩ := (show Dp K H3 x (.tuple [.str r.1, .int r.2.1, .int r.2.2]) from hx3).tuple
          obtain ⟨x1, x2, x3, rfl, hx1, hx2, hx3'⟩ := dpa_three hAx
          cases hx1.str_eq; cases hx2.int_eq; cases hx3'.int_eq
          have cut : cutV [V.str r.1, V.int r.2.1, V.int r.2.2] none (some 2) = [V.str r.1, V.int r.2.1] := rfl
          refine iteF ⟨_, rfl, _, rfl, px, _, rfl, hSx, (fun z => absurd z.2 (show ¬ HT.sIx 3 3 (some 2) = 3 by decide)), fun p4 hp4 => ?_⟩
          rw [cut]
          have s4 := same_new (o := .tup [V.str r.1, V.int r.2.1]) hp4
          have d4 : Dp K (upd H3 p4 (.tup [V.str r.1, V.int r.2.1])) (.ref p4) (lateP r.1 r.2.1) := .tup (SqT.of upd_same) (.cons (.str _) (.cons (.int _) .nil))
          refine ⟨_, rfl, lateP r.1 r.2.1, lateP s t, d4, hy3.mono s4, alike_pair, (fun z => by cases z), (by simp [lateP, PyData.depth, PyData.depthAll]), _, rfl, ?_⟩
          have s34 := s3.trans s4
          cases e5 : PySem.W.dataLt (lateP s t) (lateP r.1 r.2.1) with
          | false =>
            rw [if_pos (.inr (.inr e5))] at hb
            exact iteT ⟨_, rfl, mk_err fun d hd => raise _ s34 hb.symm d hd⟩
          | true =>
            refine iteF ?_
            rw [if_neg (by rw [el, show pairL (lateRow r) = lateP r.1 r.2.1 from rfl, e5]; simp; omega)] at hb
            refine ⟨_, rfl, _, rfl, px, _, rfl, sameT s4 hSx, (fun z => absurd z.2 (show ¬ HT.sIx 3 3 (some 2) = 3 by decide)), fun p5 hp5 => ?_⟩
            rw [cut]
            exact ⟨s34.trans (same_new hp5), by omega, .ref p5, r.1, r.2.1, .tup (SqT.of upd_same) (.cons (.str _) (.cons (.int _) .nil)), hb, _, _, rfl⟩
    · rintro σ H2 ⟨s2, i2, y, s, t, hy, hb, v3, v4, rfl⟩
      rw [lx, List.drop_length] at hb
      have hb : badLt js ds 0 (lateP "" 0) = none := hb.symm
      rw [hb] at q1
      exact q1 rfl H2 s2
  · have ew : latesWrong js o = some .non := by
      unfold latesWrong
      split
      · exact absurd rfl tt
      · rfl
    exact ⟨_, rfl, _, _, _, _, _, rfl, .ty "tuple", hv.ty, no_tup tt, false, rfl, iteT (mk_err fun d hd => q2 _ ew H d (fun _ _ z => z) hd)⟩
theorem has_delays_of {C : Addr} (D : DefAt K mg "_delays_of" s__delays_of) (B : Blt0 mg) (T : LotC K mg C) (p_names : PropH P w K mg base C "names" "_names") : Has P w K mg base 3 "_delays_of" ["lot", "lates"] (spDelays K C) := by
  refine D.has (fun _ _ _ _ _ _ us hl => match us, hl with | [_, _], _ => rfl) fun f fd F => F.ok sc__delays_of (fun vs H Q E h => ?_) (fun cdv A outer s H vs Q E hr h => ?_)
  · obtain ⟨a, n, js, v, rows, rfl, _⟩ := h; rfl
  obtain ⟨a, n, js, v, rows, rfl, L, G, l6, hv, R, q⟩ := h
  have hu := hu_of hr
  refine ⟨_, (pss_cons (ps_set (i := 3) sc__delays_of.nd rfl (.inr rfl) (pe_dc (own := [("name", 2)]) rfl sc__delays_of.nd (pi_tup (pe_ph p_names T.cl (hr.mono (by decide)) (pv 0))) (blkOk_by (N := ["lot", "lates", "name", "delays", "turn", "by"]) (sc := defScope s__delays_of) (own := [("name", 2)]) (by decide +kernel)) (fun _ _ _ _ _ => (pg_name (i := 2) sc__delays_of.nd rfl (.inl rfl) (.inr rfl))) (fun _ _ _ _ _ => pts_nil) (fun _ _ _ _ _ => (pv 2)) (fun _ _ _ _ _ => pe_dnewK)))
      (pss_cons (ps_for PassesOwn.never rfl (pi_tup (pv 1)) (pg_tup rfl (pgs_cons (pg_name (i := 2) sc__delays_of.nd rfl (.inl rfl)) (pgs_cons (pg_name (i := 4) sc__delays_of.nd rfl (.inl rfl)) (pgs_cons (pg_name (i := 5) sc__delays_of.nd rfl (.inl rfl)) pgs_nil)))) (pss_one (ps_dput hu (pe_dget hu (pv 3) (pv 2) (fun _ _ => rfl)) (pv 4) (pv 5) rfl)))
      (pss_one (ps_ret (pe_lc (own := [("name", 2)]) rfl sc__delays_of.nd (pi_tup (pe_ph p_names T.cl (hr.mono (by decide)) (pv 0))) (blkOk_by (N := ["lot", "lates", "name", "delays", "turn", "by"]) (sc := defScope s__delays_of) (own := [("name", 2)]) (by decide +kernel)) (fun _ _ _ _ _ => (pg_name (i := 2) sc__delays_of.nd rfl (.inl rfl) (.inr rfl))) (fun _ _ _ _ _ => pts_nil) (fun _ _ _ _ _ => (pe_dget hu (pv 3) (pv 2) (fun _ _ => rfl)))))))), ?_⟩
  obtain ⟨dx, pn, ps, pt, ha, h1, h2, h3⟩ := L.ex
  have nd : (js.map (·.1)).Nodup := G.nd
  have jb : ∀ k, k < js.length → js[k]? = some (jAt js k) := fun k hk => by
    have e := List.getElem?_eq_getElem hk
    rw [e]; exact congrArg some (getD_of e).symm
  have nm : ∀ k, k < js.length → ((js.map (·.1)).map V.str)[k]? = some (.str (jAt js k).1) := fun k hk => by rw [List.getElem?_map, List.getElem?_map, jb k hk]; rfl
  have inj : ∀ k k', k < js.length → k' < js.length → (jAt js k).1 = (jAt js k').1 → k = k' := fun k k' hk hk' e => by
    have e1 : (js.map (·.1))[k]? = some (jAt js k).1 := by rw [List.getElem?_map, jb k hk]; rfl
    have e2 : (js.map (·.1))[k']? = some (jAt js k').1 := by rw [List.getElem?_map, jb k' hk']; rfl
    rw [e] at e1
    exact (List.getElem?_inj (by rw [List.length_map]; exact hk) nd).mp (e1.trans e2.symm)
  have ln : ((js.map (·.1)).map V.str).length = js.length := by rw [List.length_map, List.length_map]
  -- a dict for each name
  refine ⟨_, rfl, lot_get ha lot_names ⟨pn, rfl, ⟨_, h1.seq⟩, fun D hD => dc_tup (K := K) (a := pn) (xs := (js.map (·.1)).map V.str) (fun i Hm => Same H Hm ∧ ∃ (as : List Addr) (kvs : List (L2.Key × V)), as.length = i ∧ as.Nodup ∧ (∀ q ∈ as, Hm q = some (.dK []) ∧ q ≠ D ∧ H q = none) ∧ Hm D = some (.dK kvs) ∧ kvs.length ≤ i ∧ (∀ k, k < i → valV kvs (.inr (jAt js k).1) = (as[k]?).map V.ref)) ⟨same_new hD, [], [], rfl, .nil, (fun _ z => by cases z), upd_same, Nat.le_refl _, fun k hk => absurd hk (Nat.not_lt_zero _)⟩ (fun i Hm _ z => sameT z.1 h1.seq) ?_ ?_⟩⟩
  · rintro i x Hm hx ⟨sm, as, kvs, la, na, ha1, eD, lk, hk⟩
    have il : i < js.length := by rw [← ln]; exact (List.getElem?_eq_some_iff.mp hx).1
    rw [nm i il] at hx
    cases Option.some.inj hx
    refine ⟨rfl, yesIf ⟨_, rfl, fun q9 hq9 => ?_⟩⟩
    have s9 := same_new (o := .dK []) hq9
    have n9 : q9 ≠ D := fun z => by rw [z, eD] at hq9; cases hq9
    have h9 : H q9 = none := sm.free hq9
    have f9 : q9 ∉ as := fun z => by rw [(ha1 q9 z).1] at hq9; cases hq9
    refine ⟨kvs, .inr (jAt js i).1, rfl, s9 _ _ eD, small1000 (by omega), Same.app hD (sm.trans s9), as ++ [q9], _, by rw [List.length_append, la]; rfl, List.nodup_append.mpr ⟨na, List.nodup_cons.mpr ⟨List.not_mem_nil, .nil⟩, fun a ha b hb z => f9 (by rw [List.mem_singleton.mp hb] at z; exact z ▸ ha)⟩, fun q hq => ?_, upd_same, Nat.le_trans (length_putK _ _ _) (by omega), fun k hk9 => ?_⟩
    · rcases List.mem_append.mp hq with hq | hq
      · obtain ⟨z1, z2, z3⟩ := ha1 q hq
        exact ⟨by rw [upd_ne z2]; exact s9 _ _ z1, z2, z3⟩
      · rw [List.mem_singleton.mp hq]
        exact ⟨by rw [upd_ne n9]; exact upd_same, n9, h9⟩
    · rw [valV_put]
      by_cases c : k = i
      · subst c
        rw [if_pos rfl, List.getElem?_append_right (by omega), la, Nat.sub_self]; rfl
      · have ki : k < i := by omega
        rw [if_neg (fun z => c (inj k i (by omega) il (Sum.inr.inj z))), hk k ki, List.getElem?_append_left (by omega)]
  rintro H1 ⟨s1, as, kvs, la, na, ha1, eD, lk, hk⟩
  rw [ln] at la lk hk
  obtain ⟨q0, us, rfl, hU, hUA⟩ := (hv.mono s1).tuple
  have lu : us.length = rows.length := by rw [hUA.length, List.length_map]
  -- each late
  refine ⟨_, rfl, q0, rfl, ⟨_, hU⟩, for_tup (K := K) (a := q0) (xs := us) (fun i σ Hn => Same H Hn ∧ SqT K Hn q0 us ∧ DpAll K Hn us (rows.map lateRow) ∧ Hn D = some (.dK kvs) ∧ (∀ (k : Nat) (b : Addr), as[k]? = some b → ∃ kk, Hn b = some (.dK kk) ∧ kk.length ≤ i ∧ ∀ t : Int, ((valV kk (.inl t)).getD (.int 0)) = .int (lateF js (rows.take i) k t)) ∧ ∃ v2 v4 v5, σ = [some (.ref a), some (.ref q0), v2, some (.ref D), v4, v5]) ⟨s1, hU, hUA, eD, fun k b hb => ⟨[], (ha1 b (List.mem_of_getElem? hb)).1, Nat.le_refl _, fun t => rfl⟩, _, _, _, rfl⟩ (fun _ _ _ _ z => z.2.1) ?_ ?_⟩
  · rintro i x σ Hn hx ⟨sn, hUn, hAn, eDn, hkk, v2, v4, v5, rfl⟩
    have il : i < rows.length := by rw [← lu]; exact (List.getElem?_eq_some_iff.mp hx).1
    obtain ⟨r, hr9⟩ : ∃ r, rows[i]? = some r := ⟨_, List.getElem?_eq_getElem il⟩
    obtain ⟨d, hd, hxd⟩ := hAn.get hx
    rw [List.getElem?_map, hr9] at hd
    cases Option.some.inj hd
    obtain ⟨px, ws, rfl, hSx, hAx⟩ := (show Dp K Hn x (.tuple [.str r.1, .int r.2.1, .int r.2.2]) from hxd).tuple
    obtain ⟨x1, x2, x3, rfl, hx1, hx2, hx3⟩ := dpa_three hAx
    cases hx1.str_eq; cases hx2.int_eq; cases hx3.int_eq
    obtain ⟨k0, hk0⟩ := List.mem_iff_getElem?.mp (R.ins r (List.mem_of_getElem? hr9)).1
    have k0l : k0 < js.length := by have := (List.getElem?_eq_some_iff.mp hk0).1; rwa [List.length_map] at this
    have ek0 : r.1 = (jAt js k0).1 := by rw [List.getElem?_map, jb k0 k0l] at hk0; exact (Option.some.inj hk0).symm
    obtain ⟨b, hb⟩ : ∃ b, as[k0]? = some b := ⟨_, List.getElem?_eq_getElem (by omega)⟩
    obtain ⟨kk, eb, lkk, hv9⟩ := hkk k0 b hb
    obtain ⟨_, nbD, nbH⟩ := ha1 b (List.mem_of_getElem? hb)
    refine ⟨px, _, rfl, hSx, rfl, _, _, rfl, _, _, rfl, _, _, rfl, rfl, ?_⟩
    have hg : valV kvs (.inr r.1) = some (.ref b) := by rw [ek0, hk k0 k0l, hb]; rfl
    refine ⟨_, rfl, _, rfl, _, rfl, D, .ref b, rfl, (by rw [← hg]; exact DGet.k (k := .inr r.1) eDn), _, rfl, b, _, rfl, .inl ⟨kk, .inl r.2.1, eb, rfl, small1000 (by have := R.len; omega), rfl⟩, ?_⟩
    have put : But b Hn (upd Hn b (.dK (putK kk (.inl r.2.1) (.int r.2.2)))) := But.set
    have nsq : NoSeq (.dK kk) := ⟨fun _ z => (nomatch z), fun _ z => (nomatch z), fun _ _ z => (nomatch z)⟩
    refine ⟨Same.app nbH sn, sqt_but eb nsq put hUn, dpa_but eb nsq put hAn, by rw [upd_ne nbD.symm]; exact eDn, fun k c hc => ?_, _, _, _, rfl⟩
    · by_cases ck : k = k0
      · subst ck
        rw [hb] at hc
        cases Option.some.inj hc
        refine ⟨_, upd_same, Nat.le_trans (length_putK _ _ _) (by omega), fun t => ?_⟩
        rw [List.take_add_one, hr9]
        show _ = V.int (lateF js (rows.take i ++ [r]) k t)
        rw [lateF_snoc, valV_put]
        by_cases ct : t = r.2.1
        · rw [if_pos (by rw [ct]), if_pos ⟨ek0, ct.symm⟩]; rfl
        · rw [if_neg (fun z => ct (Sum.inl.inj z)), if_neg (fun z => ct z.2.symm)]
          exact hv9 t
      · obtain ⟨kk2, ec, lc, hv2⟩ := hkk k c hc
        have ncb : c ≠ b := fun z => ck ((List.getElem?_inj (List.getElem?_eq_some_iff.mp hc).1 na).mp (by rw [hc, hb, z]))
        have kl : k < js.length := by have := (List.getElem?_eq_some_iff.mp hc).1; omega
        refine ⟨kk2, by rw [upd_ne ncb]; exact ec, by omega, fun t => ?_⟩
        rw [List.take_add_one, hr9]
        show _ = V.int (lateF js (rows.take i ++ [r]) k t)
        rw [lateF_snoc, if_neg (fun z => ck (inj k k0 kl k0l (z.1.symm.trans ek0)))]
        exact hv2 t
  · rintro σ H2 ⟨s2, hU2, hA2, eD2, hkk, v2, v4, v5, rfl⟩
    rw [lu, List.take_length] at hkk
    obtain ⟨dx2, pn2, ps2, pt2, ha2, g1, _⟩ := (L.mono s2).ex
    dsimp only [List.set]
    refine ⟨_, rfl, lot_get ha2 lot_names ⟨pn2, rfl, ⟨_, g1.seq⟩, fun pl hpl => ?_⟩⟩
    have hpl0 : H pl = none := s2.free hpl
    refine lc_it (walk_tup (K := K) (a := pn2) (xs := (js.map (·.1)).map V.str)) (fun i Hm => Same H2 Hm ∧ ∃ ws, Hm pl = some (.lst ws) ∧ ws = (as.take i).map V.ref) ⟨same_new hpl, _, upd_same, rfl⟩ (fun i Hm _ z => sameT z.1 g1.seq) ?_ ?_
    · rintro i x Hm Hm' hi ⟨sm, ws, el, rfl⟩ ⟨e9, ex⟩
      cases e9
      have il : i < js.length := by rw [← ln]; exact hi
      rw [nm i il] at ex
      cases Option.some.inj ex
      obtain ⟨b, hb⟩ : ∃ b, as[i]? = some b := ⟨_, List.getElem?_eq_getElem (by omega)⟩
      have hg : valV kvs (.inr (jAt js i).1) = some (.ref b) := by rw [hk i il, hb]; rfl
      refine ⟨rfl, yesIf ⟨_, rfl, _, rfl, D, .ref b, rfl, (by rw [← hg]; exact DGet.k (k := .inr (jAt js i).1) (sm _ _ eD2)), _, el, small1000 (by rw [List.length_map, List.length_take]; omega), Same.app hpl sm, _, upd_same, ?_⟩⟩
      rw [List.take_add_one, hb, List.map_append]; rfl
    · rintro H3 ⟨s3, ws, el, rfl⟩
      rw [ln, ← la, List.take_length] at el
      refine q pl _ H3 hpl0 (s2.trans s3) el ⟨by rw [List.length_map, la], fun k v9 hv9 => ?_⟩
      rw [List.getElem?_map] at hv9
      cases ec : as[k]? with
      | none => rw [ec] at hv9; cases hv9
      | some b =>
        rw [ec] at hv9
        cases Option.some.inj hv9
        obtain ⟨kk, eb, _, h9⟩ := hkk k b ec
        exact ⟨b, kk, rfl, s3 _ _ eb, h9⟩
theorem okx_run {C CL CR CI CN f : Addr} {fd : FuncData} (F : Fun K "run" "run" s_run f fd) (MR : ∃ t, mg "MOST_RUN" = some (.int 2000 t)) (hx_check_lot : HasX P w K mg base 3 "check_lot" ["lot"] (spCheckLotX K C CL)) (hx_check_rule : HasX P w K mg base 3 "check_rule" ["rule"] (spCheckRuleX K CR)) (hx_check_lates : HasX P w K mg base 4 "check_lates" ["lot", "lates"] (spCheckLatesX K C CI))
    (hx_check_number : HasX P w K mg base 3 "check_number" ["number", "low", "high"] (spCheckNumberX K CN)) (h__delays_of : Has P w K mg base 3 "_delays_of" ["lot", "lates"] (spDelays K C)) (h_play : Has P w K mg base 10 "play" ["lot", "rule", "delays", "ticks"] (spPlay K C)) :
    FnOk P w K mg base (L2.CX P w) 11 f fd ["lot", "rule", "lates", "ticks"] (spRunX K C CL CR CI CN) := by
  refine F.okX sc_run (fun vs H Q E h => ?_) (fun cdv A outer s H vs Q E hr h => ?_)
  · obtain ⟨v, x, y, z, o, ro, od, k, rfl, _⟩ := h; rfl
  obtain ⟨v, x, y, z, o, ro, od, k, rfl, hv, hx, hy, hz, hG, q1, q2, q3, q4, q5⟩ := h
  have tk := takes_of (X := cxOf (L2.CX P w) P w K mg base ["lot", "rule", "lates", "ticks"] "run" (defScope s_run) f cdv A outer s H E) (E := E) rfl rfl rfl rfl
  cases o with
  | none => exact ⟨_, pss_stop (ps_expr (pe_x hx_check_lot (hr.mono (by decide)) tk (pa_cons (pv 0) pa_nil))), _, rfl, v, none, rfl, hv, (fun z => by cases z), fun _ => q1 rfl⟩
  | some p =>
    obtain ⟨n, js⟩ := p
    obtain ⟨G, l0, l6, sp⟩ := hG n js rfl
    obtain ⟨a, rfl, L⟩ := id hv
    cases ro with
    | none => exact ⟨_, pss_cons (ps_expr (pe_x hx_check_lot (hr.mono (by decide)) tk (pa_cons (pv 0) pa_nil))) (pss_stop (ps_expr (pe_x hx_check_rule (hr.mono (by decide)) tk (pa_cons (pv 1) pa_nil)))), _, rfl, _, some (n, js), rfl, hv, (fun _ => ⟨_, rfl, x, none, rfl, hx, (fun z => by cases z), fun _ => q2 n js rfl rfl⟩), fun z => by cases z⟩
    | some r =>
      cases ew : latesWrong js od with
      | some u => exact ⟨_, pss_cons (ps_expr (pe_x hx_check_lot (hr.mono (by decide)) tk (pa_cons (pv 0) pa_nil))) (pss_cons (ps_expr (pe_x hx_check_rule (hr.mono (by decide)) tk (pa_cons (pv 1) pa_nil))) (pss_stop (ps_expr (pe_x hx_check_lates (hr.mono (by decide)) tk (pa_cons (pv 0) (pa_cons (pv 2) pa_nil)))))), _, rfl, _, some (n, js), rfl, hv, (fun _ => ⟨_, rfl, x, some r, rfl, hx, (fun _ => ⟨_, rfl, _, rfl, a, n, js, y, od, rfl, L, hy, (fun z => by rw [ew] at z; cases z), fun u' eu => q3 n js r u' rfl rfl eu⟩), fun z => by cases z⟩), fun z => by cases z⟩
      | none =>
        cases ek : inRg k 0 2000 with
        | false => exact ⟨_, pss_cons (ps_expr (pe_x hx_check_lot (hr.mono (by decide)) tk (pa_cons (pv 0) pa_nil))) (pss_cons (ps_expr (pe_x hx_check_rule (hr.mono (by decide)) tk (pa_cons (pv 1) pa_nil))) (pss_cons (ps_expr (pe_x hx_check_lates (hr.mono (by decide)) tk (pa_cons (pv 0) (pa_cons (pv 2) pa_nil)))) (pss_stop (ps_expr (pe_x hx_check_number (hr.mono (by decide)) tk (pa_cons (pv 3) (pa_cons pe_int (pa_cons (pe_gint MR) pa_nil)))))))), _, rfl, _, some (n, js), rfl, hv, (fun _ => ⟨_, rfl, x, some r, rfl, hx, (fun _ => ⟨_, rfl, _, rfl, a, n, js, y, od, rfl, L, hy, (fun _ H1 s1 => ⟨_, rfl, z, 0, 2000, k, rfl, hz.mono s1, (fun e => by rw [ek] at e; cases e), fun _ H2 d s2 hd => q4 n js r rfl rfl ew ek H2 d (s1.trans s2) hd⟩), fun u' eu => by rw [ew] at eu; cases eu⟩), fun z => by cases z⟩), fun z => by cases z⟩
        | true =>
          refine ⟨_, (pss_cons (ps_expr (pe_x hx_check_lot (hr.mono (by decide)) tk (pa_cons (pv 0) pa_nil)))
      (pss_cons (ps_expr (pe_x hx_check_rule (hr.mono (by decide)) tk (pa_cons (pv 1) pa_nil)))
      (pss_cons (ps_expr (pe_x hx_check_lates (hr.mono (by decide)) tk (pa_cons (pv 0) (pa_cons (pv 2) pa_nil))))
      (pss_cons (ps_expr (pe_x hx_check_number (hr.mono (by decide)) tk (pa_cons (pv 3) (pa_cons pe_int (pa_cons (pe_gint MR) pa_nil)))))
      (pss_one (ps_ret (pe_h h_play (hr.mono (by decide)) (pa_cons (pv 0) (pa_cons (pv 1) (pa_cons (pe_h h__delays_of (hr.mono (by decide)) (pa_cons (pv 0) (pa_cons (pv 2) pa_nil))) (pa_cons (pv 3) pa_nil))))))))))), ?_⟩
          obtain ⟨ds, rfl, hb⟩ : ∃ ds, od = some (.tuple ds) ∧ badLt js ds 0 (lateP "" 0) = none := by
            unfold latesWrong at ew
            split at ew
            · rename_i ds
              exact ⟨ds, rfl, Option.map_eq_none_iff.mp ew⟩
            · cases ew
          obtain ⟨rows, rfl, R⟩ := rows_of_bad hb
          obtain ⟨f', rfl, f0, f1⟩ := inRg_is ek
          obtain ⟨f, rfl⟩ := Int.eq_ofNat_of_zero_le f0
          cases (show z = .int (f : Int) from hz)
          refine ⟨_, rfl, _, some (n, js), rfl, hv, (fun _ => ⟨_, rfl, x, some r, rfl, hx, (fun _ => ⟨_, rfl, _, rfl, a, n, js, y, _, rfl, L, hy, (fun _ H1 s1 => ⟨_, rfl, _, 0, 2000, some (f : Int), rfl, rfl, (fun _ => ?_), fun e => by rw [ek] at e; cases e⟩), fun u' eu => by rw [ew] at eu; cases eu⟩), fun z => by cases z⟩), fun z => by cases z⟩
          obtain ⟨w9, ex, hw⟩ := hx
          subst ex
          refine ⟨_, rfl, _, rfl, _, rfl, _, rfl, a, n, js, y, rows, rfl, L.mono s1, G, l6, (show Dp K H y (latesD rows) from hy).mono s1, R, fun pd xs H2 hpd s2 e2 DL => ?_⟩
          exact ⟨_, rfl, a, pd, n, r, f, js, w9, xs, lateF js rows, rfl, L.mono (s1.trans s2), G, l0, l6, sp, hw, SqL.of e2, DL, R.nn, by omega, fun p pr us lv H' s' ep epr Rt Lo => q5 n js r rows f rfl rfl rfl R rfl (by omega) p pr us lv H' ((s1.trans s2).trans s') ep epr Rt Lo⟩
end
end Ts
namespace Ts
open PySem PySem.Spec PyProof.Rows L2 L2H LamX
section
variable {P : Program} {w : World} {K : PySem.W.Frag} {mg : Str → Option Value} {base : Heap}
theorem okx_worst {C CL CR CY f : Addr} {fd : FuncData} (F : Fun K "worst" "worst" s_worst f fd) (B : Blt0 mg) (T : LotC K mg C) (p_shares : PropH P w K mg base C "shares" "_shares") (MW : ∃ t, mg "MOST_SEARCHED_WORKS" = some (.int 4 t)) (MP : ∃ t, mg "MOST_SEARCHED_PERIOD" = some (.int 6 t)) (T_TooMany : ErrB P w K mg base "TooMany" CY "limit") (hx_check_lot : HasX P w K mg base 3 "check_lot" ["lot"] (spCheckLotX K C CL)) (hx_check_rule : HasX P w K mg base 3 "check_rule" ["rule"] (spCheckRuleX K CR)) :
    FnOk P w K mg base (L2.CX P w) 11 f fd ["lot", "rule"] (spWorstX K C CL CR CY) := by
  refine F.okX sc_worst (fun vs H Q E h => ?_) (fun cdv A outer s H vs Q E hr h => ?_)
  · obtain ⟨v, x, o, ro, rfl, _⟩ := h; rfl
  obtain ⟨v, x, o, ro, rfl, hv, hx, hG, q1, q2, q3, q4⟩ := h
  have tk := takes_of (X := cxOf (L2.CX P w) P w K mg base ["lot", "rule", "_", "bottom", "found", "lates", "moment", "lost"] "worst" (defScope s_worst) f cdv A outer s H E) (E := E) rfl rfl rfl rfl
  cases o with
  | none => exact ⟨_, pss_stop (ps_expr (pe_x hx_check_lot (hr.mono (by decide)) tk (pa_cons (pv 0) pa_nil))), _, rfl, v, none, rfl, hv, (fun z => by cases z), fun _ => q1 rfl⟩
  | some p =>
    obtain ⟨n, js⟩ := p
    obtain ⟨l0, l6⟩ := hG n js rfl
    obtain ⟨a, rfl, L⟩ := id hv
    cases ro with
    | none => exact ⟨_, pss_cons (ps_expr (pe_x hx_check_lot (hr.mono (by decide)) tk (pa_cons (pv 0) pa_nil))) (pss_stop (ps_expr (pe_x hx_check_rule (hr.mono (by decide)) tk (pa_cons (pv 1) pa_nil)))), _, rfl, _, some (n, js), rfl, hv, (fun _ => ⟨_, rfl, x, none, rfl, hx, (fun z => by cases z), fun _ => q2 n js rfl rfl⟩), fun z => by cases z⟩
    | some r =>
      obtain ⟨dx, pn, ps, pt, ha, h1, h2, h3⟩ := L.ex
      obtain ⟨ps2, xs, e, hS, hA⟩ := h2.tuple
      cases e
      have lx : xs.length = js.length := by rw [hA.length]; unfold sharesD; rw [List.length_map]
      by_cases c : 4 < js.length
      · refine ⟨_, pss_cons (ps_expr (pe_x hx_check_lot (hr.mono (by decide)) tk (pa_cons (pv 0) pa_nil))) (pss_cons (ps_expr (pe_x hx_check_rule (hr.mono (by decide)) tk (pa_cons (pv 1) pa_nil))) (pss_stop (ps_if (pt_cmpR op_gt (pe_callB call_len_seq (by rfl) B.zlen (by decide +kernel) (pa_cons (pe_ph p_shares T.cl (hr.mono (by decide)) (pv 0)) pa_nil)) (pe_gint MW) (nomark _)) (pss_one (ps_raise rfl tk (pmk_errB T_TooMany (hr.mono (by decide)) (pe_gint MW)))) pss_nil))), _, rfl, _, some (n, js), rfl, hv, (fun _ => ⟨_, rfl, x, some r, rfl, hx, (fun _ => ?_), fun z => by cases z⟩), fun z => by cases z⟩
        refine ⟨_, rfl, lot_get ha lot_shares ⟨ps, xs, rfl, .inr hS, _, _, rfl, rfl, _, rfl, ?_⟩⟩
        rw [decide_eq_true (show (4 : Int) < (xs.length : Int) by omega)]
        exact iteT (mk_err fun d hd => q3 n js r rfl rfl c H d (fun _ _ z => z) hd)
      · refine ⟨_, pss_cons (ps_expr (pe_x hx_check_lot (hr.mono (by decide)) tk (pa_cons (pv 0) pa_nil))) (pss_cons (ps_expr (pe_x hx_check_rule (hr.mono (by decide)) tk (pa_cons (pv 1) pa_nil))) (pss_cons (ps_if (pt_cmpR op_gt (pe_callB call_len_seq (by rfl) B.zlen (by decide +kernel) (pa_cons (pe_ph p_shares T.cl (hr.mono (by decide)) (pv 0)) pa_nil)) (pe_gint MW) (nomark _)) (pss_one (ps_raise rfl tk (pmk_errB T_TooMany (hr.mono (by decide)) (pe_gint MW)))) pss_nil) (pss_stop (ps_if (pt_cmpR op_gt (pe_callB (cr_max rfl) (by rfl) B.zmax (by decide +kernel) (pa_cons (pe_lc (own := [("_", 2), ("bottom", 3)]) rfl sc_worst.nd (pi_tup (pe_ph p_shares T.cl (hr.mono (by decide)) (pv 0))) (blkOk_by (N := ["lot", "rule", "_", "bottom", "found", "lates", "moment", "lost"]) (sc := defScope s_worst) (own := [("_", 2), ("bottom", 3)]) (by decide +kernel)) (fun _ _ _ _ _ => (pg_tupK (K := K) (n := 2) rfl rfl (pgs_cons (pg_name (i := 2) sc_worst.nd rfl (.inl rfl) (.inr rfl)) (pgs_cons (pg_name (i := 3) sc_worst.nd rfl (.inl rfl) (.inr rfl)) pgs_nil)))) (fun _ _ _ _ _ => pts_nil) (fun _ _ _ _ _ => (pv 3))) pa_nil)) (pe_gint MP) (nomark _)) (pss_one (ps_raise rfl tk (pmk_errB T_TooMany (hr.mono (by decide)) (pe_gint MP)))) pss_nil)))), _, rfl, _, some (n, js), rfl, hv, (fun _ => ⟨_, rfl, x, some r, rfl, hx, (fun _ => ?_), fun z => by cases z⟩), fun z => by cases z⟩
        refine ⟨_, rfl, lot_get ha lot_shares ⟨ps, xs, rfl, .inr hS, _, _, rfl, rfl, _, rfl, ?_⟩⟩
        rw [decide_eq_false (show ¬ (4 : Int) < (xs.length : Int) by omega)]
        refine iteF ?_
        refine ⟨_, rfl, lot_get ha lot_shares ⟨ps, rfl, ⟨_, hS⟩, fun pl hpl => ?_⟩⟩
        refine lc_it (walk_tup (K := K) (a := ps) (xs := xs)) (fun i Hm => Same H Hm ∧ Hm pl = some (.lst (((js.take i).map fun j => (j.2.2 : Int)).map V.int))) ⟨same_new hpl, upd_same⟩ (fun i Hm _ z => sameT z.1 hS) ?_ ?_
        · rintro i y Hm Hm' hi ⟨sm, el⟩ ⟨e9, hy⟩
          cases e9
          obtain ⟨j, c9, hj, rfl, hc⟩ := share_at (js := js) (hA.mono sm) hy
          refine ⟨c9, _, rfl, hc, rfl, _, _, rfl, _, _, rfl, rfl, rfl, yesIf ⟨_, rfl, _, el, small1000 (by rw [List.length_map, List.length_map, List.length_take]; omega), Same.app hpl sm, ?_⟩⟩
          rw [upd_same, List.take_add_one, hj, List.map_append, List.map_append]; rfl
        · rintro H2 ⟨s2, el⟩
          rw [lx, List.take_length] at el
          obtain ⟨⟨j, hj, j6⟩, q4⟩ := q4 n js r rfl rfl (by omega)
          refine ⟨pl, js.map fun j => (j.2.2 : Int), rfl, SqL.of el, by rw [List.length_map]; exact l0, fun m hm hle => ⟨_, _, rfl, rfl, _, rfl, ?_⟩⟩
          have h9 := hle _ (List.mem_map.mpr ⟨j, hj, rfl⟩)
          rw [decide_eq_true (show (6 : Int) < m by omega)]
          exact iteT (mk_err fun d hd => q4 H2 d s2 hd)
end
end Ts
namespace Ts
open PySem PySem.Spec PyProof.Rows L2
section
variable {P : Program} {w : World} {K : PySem.W.Frag} {mg : Str → Option Value} {base : Heap}
theorem has_cell (D : DefAt K mg "_law_cell" s__law_cell) (B : Blt0 mg) : Has P w K mg base 1 "_law_cell" ["_law_cells", "_law_spot"] (spCell K) := by
  refine D.has (fun _ _ _ _ _ _ us hl => match us, hl with | [_, _], _ => rfl) fun f fd F => F.ok sc__law_cell (fun vs H Q E h => ?_) (fun cdv A outer s H vs Q E hr h => ?_)
  · obtain ⟨a, ns, i, rfl, _⟩ := h; rfl
  obtain ⟨a, ns, i, rfl, hS, hl, hi, q⟩ := h
  refine ⟨_, (pss_cons (ps_if (pt_cmpR op_lt (pv 1) (pe_callB call_len_seq (by rfl) B.zlen (by decide +kernel) (pa_cons (pv 0) pa_nil)) (nomark _)) (pss_one (ps_ret (pe_callTy call_int1 (by rfl) B.zint (by decide +kernel) (pa_cons (pe_ix ix_list (pv 0) (pv 1) (fun _ _ => rfl)) pa_nil)))) pss_nil)
      (pss_cons (ps_set (i := 2) sc__law_cell.nd rfl (.inl rfl) (pe_op op_add (pe_op op_mul pe_int (pv 1)) pe_int))
      (pss_cons (ps_for PassesOwn.never rfl (pi_list (pe_slice sl_list (pv 0) po_none (po_some pe_int))) (pg_name (i := 3) sc__law_cell.nd rfl (.inl rfl)) (pss_one (ps_set (i := 2) sc__law_cell.nd rfl (.inl rfl) (pe_op op_mod (pe_callTy call_int1 (by rfl) B.zint (by decide +kernel) (pa_cons (pe_op op_add (pe_op op_add (pe_op op_mul (pv 2) pe_int) (pv 3)) pe_int) pa_nil)) pe_int))))
      (pss_one (ps_ret (pv 2)))))), ?_⟩
  refine ⟨_, rfl, _, rfl, a, _, rfl, .inl hS, _, _, rfl, rfl, _, rfl, ite2 (fun c => ?_) (fun c => ?_)⟩
  · have c' : i < ns.length := by
      have := of_decide_eq_true c
      rw [List.length_map] at this
      omega
    exact ⟨_, rfl, _, rfl, a, _, i, .int ns[i], rfl, rfl, hS, atI_nat (by rw [List.getElem?_map, List.getElem?_eq_getElem c']; rfl), .inl ⟨_, rfl, q _ H (Same.refl _)⟩⟩
  · refine ⟨_, rfl, _, _, rfl, rfl, .inl ⟨by decide, by decide⟩, _, _, rfl, rfl, ?_⟩
    refine ⟨_, rfl, _, rfl, a, _, rfl, hS, fun p hp => ?_⟩
    have s1 : Same H (upd H p (.lst (cutV (ns.map V.int) none (some 4)))) := same_new hp
    have e1 : (upd H p (.lst (cutV (ns.map V.int) none (some 4)))) p = some (.lst (cutV (ns.map V.int) none (some 4))) := upd_same
    revert s1 e1
    generalize upd H p (.lst (cutV (ns.map V.int) none (some 4))) = H1
    intro s1 e1
    refine ⟨p, rfl, ⟨_, SqL.of e1⟩, for_list (K := K) (a := p) (xs := cutV (ns.map V.int) none (some 4)) (fun _ σ H' => Same H1 H' ∧ ∃ (z : Int) (v : Option V), σ = [some (.ref a), some (.int i), some (.int z), v])
      ⟨Same.refl _, _, _, rfl⟩ (fun _ _ _ _ z => SqL.of (z.1 _ _ e1)) ?_ ?_⟩
    · rintro j x σ H' hx ⟨sm, z, v, rfl⟩
      obtain ⟨n, rfl⟩ : ∃ n, x = V.int n := by
        have m := List.mem_of_getElem? hx
        unfold cutV at m
        obtain ⟨n, _, e⟩ := List.mem_map.mp (List.mem_of_mem_drop (List.mem_of_mem_take m))
        exact ⟨n, e.symm⟩
      exact ⟨_, rfl, _, _, rfl, rfl, .inr ⟨by decide, by decide⟩, _, rfl, _, _, rfl, rfl, _, _, rfl, rfl, .inl ⟨_, rfl, _, _, rfl, rfl, (by decide : (0 : Int) < _), sm, _, _, rfl⟩⟩
    · rintro σ H' ⟨sm, z, v, rfl⟩
      exact ⟨_, rfl, q _ _ (s1.trans sm)⟩
theorem has_jar (D : DefAt K mg "_law_jar" s__law_jar) (B : Blt0 mg) (h__law_cell : Has P w K mg base 1 "_law_cell" ["_law_cells", "_law_spot"] (spCell K)) : Has P w K mg base 2 "_law_jar" ["_law_cells", "_law_spot"] (spBasin K) := by
  refine D.has (fun _ _ _ _ _ _ us hl => match us, hl with | [_, _], _ => rfl) fun f fd F => F.ok sc__law_jar (fun vs H Q E h => ?_) (fun cdv A outer s H vs Q E hr h => ?_)
  · obtain ⟨a, ns, i, rfl, _⟩ := h; rfl
  obtain ⟨a, ns, i, rfl, hS, hl, hi, q⟩ := h
  refine ⟨_, (pss_cons (ps_set (i := 2) sc__law_jar.nd rfl (.inl rfl) (pe_callB call_abs (by rfl) B.zabs (by decide +kernel) (pa_cons (pe_h h__law_cell (hr.mono (by decide)) (pa_cons (pv 0) (pa_cons (pv 1) pa_nil))) pa_nil)))
      (pss_one (ps_ret (pe_lst (pa_cons (pv 2) (pa_cons (pe_op op_mod (pe_callTy call_int1 (by rfl) B.zint (by decide +kernel) (pa_cons (pe_op op_add (pv 2) (pe_op op_mul pe_int (pv 1))) pa_nil)) pe_int) (pa_cons pe_int pa_nil))))))), ?_⟩
  refine ⟨_, rfl, _, rfl, a, ns, i, rfl, hS, hl, by omega, fun x H1 s1 => ?_⟩
  refine ⟨_, rfl, ?_⟩
  refine ⟨_, rfl, _, rfl, _, rfl, _, _, rfl, rfl, .inl ⟨by decide, by decide⟩, _, _, rfl, rfl, .inl ⟨_, rfl, _, _, rfl, rfl, (by decide : (0 : Int) < _), by show 3 ≤ sizeLine; decide, fun p hp => ?_⟩⟩
  exact q p _ (s1.free hp) (s1.trans (same_new hp)) ⟨_, _, _, upd_same⟩
theorem has_dig (D : DefAt K mg "_law_dig" s__law_dig) (B : Blt0 mg) : Has P w K mg base 1 "_law_dig" ["_law_jar_here", "_law_many"] spLadle := by
  refine D.has (fun _ _ _ _ _ _ us hl => match us, hl with | [_, _], _ => rfl) fun f fd F => F.ok sc__law_dig (fun vs H Q E h => ?_) (fun cdv A outer s H vs Q E hr h => ?_)
  · obtain ⟨b, m, rfl, _⟩ := h; rfl
  obtain ⟨b, m, rfl, ⟨x, y, z, hb⟩, hm0, hm1, q⟩ := h
  refine ⟨_, (pss_cons (ps_asg (pe_op op_add (pe_ix ix_list (pv 0) pe_int (fun _ _ => rfl)) pe_int) (pg_sub (pv 0) pe_int set_list))
      (pss_cons (ps_set (i := 2) sc__law_dig.nd rfl (.inl rfl) (pe_callTy call_int1 (by rfl) B.zint (by decide +kernel) (pa_cons (pe_ix ix_list (pv 0) pe_int (fun _ _ => rfl)) pa_nil)))
      (pss_cons (ps_asg (pe_op op_mod (pe_callTy call_int1 (by rfl) B.zint (by decide +kernel) (pa_cons (pe_op op_add (pe_op op_add (pe_op op_mul (pv 2) (pe_op op_add (pe_op op_mod (pe_callTy call_int1 (by rfl) B.zint (by decide +kernel) (pa_cons (pv 2) pa_nil)) pe_int) pe_int)) (pe_op op_mul (pe_ix ix_list (pv 0) pe_int (fun _ _ => rfl)) pe_int)) pe_int) pa_nil)) pe_int) (pg_sub (pv 0) pe_int set_list))
      (pss_cons (ps_if (pt_cmpR op_gt (pe_ix ix_list (pv 0) pe_int (fun _ _ => rfl)) pe_int (nomark _)) (pss_cons (ps_asg (pe_callB call_divmod (by rfl) B.zdivmod (by decide +kernel) (pa_cons (pe_ix ix_list (pv 0) pe_int (fun _ _ => rfl)) (pa_cons (pv 1) pa_nil))) (pg_tup rfl (pgs_cons (pg_sub (pv 0) pe_int set_list) (pgs_cons (pg_name (i := 3) sc__law_dig.nd rfl (.inl rfl)) pgs_nil))))
      (pss_one (ps_ret (pv 3)))) pss_nil)
      (pss_one (ps_ret (pe_op op_mod (pe_callTy call_int1 (by rfl) B.zint (by decide +kernel) (pa_cons (pe_op op_fdiv (pe_ix ix_list (pv 0) pe_int (fun _ _ => rfl)) pe_int) pa_nil)) (pv 1)))))))), ?_⟩
  -- b[2] = b[2] + 1
  refine ⟨_, rfl, b, _, 2, .int z, rfl, rfl, SqL.of hb, rfl, _, _, rfl, rfl, _, rfl, b, _, 2, 2, rfl, rfl, hb, rfl, ?_⟩
  have b1 : But b H (upd H b (.lst ([V.int x, V.int y, V.int z].set 2 (V.int (z + 1))))) := But.set
  have e1 : (upd H b (.lst ([V.int x, V.int y, V.int z].set 2 (V.int (z + 1))))) b = some (.lst [.int x, .int y, .int (z + 1)]) := upd_same
  revert b1 e1
  generalize upd H b (.lst ([V.int x, V.int y, V.int z].set 2 (V.int (z + 1)))) = H1
  intro b1 e1
  -- mixed
  refine ⟨_, rfl, b, _, 1, .int y, rfl, rfl, SqL.of e1, rfl, .inl ⟨_, rfl, ?_⟩⟩
  -- b[1] = ..
  have hpos : (0 : Int) < 29989 := by decide
  have r0 := Int.emod_nonneg y (show (29989 : Int) ≠ 0 by decide)
  have r1 := Int.emod_lt_of_pos y hpos
  refine ⟨_, rfl, _, rfl, .inl ⟨_, rfl, _, _, rfl, rfl, hpos, _, _, rfl, rfl, _, _, rfl, rfl, .inr ⟨by omega, by omega⟩, _, rfl, b, _, 2, .int (z + 1), rfl, rfl, SqL.of e1, rfl, _, _, rfl, rfl, .inr ⟨by decide, by decide⟩, _, _, rfl, rfl, _, _, rfl, rfl, .inl ⟨_, rfl, _, _, rfl, rfl, (by decide : (0 : Int) < _), _, rfl, b, _, 1, 1, rfl, rfl, e1, rfl, ?_⟩⟩⟩
  obtain ⟨y2, hy2⟩ : ∃ y2, y2 = (y * (y % 29989 + 40013) + (z + 1) * 65521 + 7) % 2147483587 := ⟨_, rfl⟩
  have b2 : But b H (upd H1 b (.lst ([V.int x, V.int y, V.int (z + 1)].set 1 (V.int y2)))) := b1.trans But.set
  have e2 : (upd H1 b (.lst ([V.int x, V.int y, V.int (z + 1)].set 1 (V.int y2)))) b = some (.lst [.int x, .int y2, .int (z + 1)]) := upd_same
  revert b2 e2
  rw [hy2]
  generalize upd H1 b (.lst ([V.int x, V.int y, V.int (z + 1)].set 1 (V.int ((y * (y % 29989 + 40013) + (z + 1) * 65521 + 7) % 2147483587)))) = H2
  rw [← hy2]
  intro b2 e2
  refine ⟨_, rfl, b, _, 0, .int x, rfl, rfl, SqL.of e2, rfl, _, _, rfl, rfl, _, rfl, ?_⟩
  refine ite2 (fun c => ?_) (fun c => ?_)
  · refine ⟨_, rfl, b, _, 0, .int x, rfl, rfl, SqL.of e2, rfl, _, rfl, x, m, rfl, ⟨hm0, hm1⟩, fun p hp => ?_⟩
    have hbp : b ≠ p := ne_of_none e2 hp
    refine ⟨p, _, rfl, SqT.of upd_same, rfl, _, _, rfl, _, rfl, b, [.int x, .int y2, .int (z + 1)], 0, 0, rfl, rfl, (by rw [upd_ne hbp]; exact e2), rfl, ?_⟩
    refine ⟨_, _, rfl, rfl, _, rfl, q _ _ (Int.emod_nonneg _ (by omega)) (Int.emod_lt_of_pos _ hm0) ?_ ⟨_, _, _, upd_same⟩⟩
    exact b2.trans ((But.of_same (same_new hp)).trans But.set)
  · exact ⟨_, rfl, b, _, 1, _, rfl, rfl, SqL.of e2, rfl, _, _, rfl, rfl, ⟨by decide, by decide⟩, .inl ⟨_, rfl, _, rfl, _, _, rfl, rfl, hm0, q _ _ (Int.emod_nonneg _ (by omega)) (Int.emod_lt_of_pos _ hm0) b2 ⟨_, _, _, e2⟩⟩⟩
theorem has_take (D : DefAt K mg "_law_take" s__law_take) (B : Blt0 mg) (h__law_dig : Has P w K mg base 1 "_law_dig" ["_law_jar_here", "_law_many"] spLadle) : Has P w K mg base 2 "_law_take" ["_law_jar_here", "_law_some"] (spTakeJ K) := by
  refine D.has (fun _ _ _ _ _ _ us hl => match us, hl with | [_, _], _ => rfl) fun f fd F => F.ok sc__law_take (fun vs H Q E h => ?_) (fun cdv A outer s H vs Q E hr h => ?_)
  · obtain ⟨b, p, xs, rfl, _⟩ := h; rfl
  obtain ⟨b, p, xs, rfl, hB, hS, l0, l1, q⟩ := h
  refine ⟨_, (pss_one (ps_ret (pe_ix ix_list (pv 1) (pe_h h__law_dig (hr.mono (by decide)) (pa_cons (pv 0) (pa_cons (pe_callB call_len_seq (by rfl) B.zlen (by decide +kernel) (pa_cons (pv 1) pa_nil)) pa_nil))) (fun _ _ => rfl)))), ?_⟩
  refine ⟨_, rfl, _, rfl, _, rfl, p, _, rfl, .inl (hid_sub.seq hS), b, _, rfl, hB, by omega, by omega, fun r H1 r0 r1 b1 B1 => ?_⟩
  obtain ⟨v, hv, mv⟩ := atI_in (xs := xs) r0 r1
  exact ⟨p, xs, r, v, rfl, rfl, hid_sub.seq (b1.hid.seq hS), hv, q v H1 mv b1 B1⟩
end
end Ts
namespace Ts
open PySem PySem.Spec PyProof.Rows L2 L2H LamX
section
variable {P : Program} {w : World} {K : PySem.W.Frag} {mg : Str → Option Value} {base : Heap}
theorem has_sort {c : Cls9} {b : Bas3} (D : DefAt K mg "_law_sort" s__law_sort) (B : Blt0 mg) (N : ErrN9 mg c b) : HasP P w K mg base 1 "_law_sort" ["_law_e"] (spSort K c) := by
  refine D.hasP (fun _ _ _ _ _ _ us hl => match us, hl with | [_], _ => rfl) fun f fd F => fun_p F sc__law_sort (fun p vs H Q E h => ?_) (fun cdv A outer s H vs Q p hr h => ?_)
  · obtain ⟨C, i, t, v, rfl, _⟩ := h; rfl
  obtain ⟨C, i, t, v, rfl, hK, hE, hI, hf, ht, q⟩ := h
  have hp : p ∈ (cxH CX0 P w K mg base ["_law_e", "_law_found"] "_law_sort" (defScope s__law_sort) f cdv A outer s H E0 p).pn := List.mem_singleton.mpr rfl
  refine ⟨_, (pss_cons (ps_set (i := 1) sc__law_sort.nd rfl (.inl rfl) (pe_lst pa_nil))
      (C8.pss_cut (ps_if (pt_val (pe_callB (call_isP hp) (by rfl) B.zisinstance (by decide +kernel) (pa_cons (pv 0) (pa_cons (pe_gref N.NotALot) pa_nil)))) (pss_one (ps_expr (pe_bm PySem.F.plainAttrs_list PySem.F.slot_list_append PySem.F.type_list_append mt_append (pv 1) (pa_cons (pe_tup (pa_cons pe_str (pa_cons (pe_err hp (pv 0)) pa_nil))) pa_nil)))) pss_nil)
      (C8.pss_cut (ps_if (pt_val (pe_callB (call_isP hp) (by rfl) B.zisinstance (by decide +kernel) (pa_cons (pv 0) (pa_cons (pe_gref N.UnknownName) pa_nil)))) (pss_one (ps_expr (pe_bm PySem.F.plainAttrs_list PySem.F.slot_list_append PySem.F.type_list_append mt_append (pv 1) (pa_cons (pe_tup (pa_cons pe_str (pa_cons (pe_err hp (pv 0)) pa_nil))) pa_nil)))) pss_nil)
      (C8.pss_cut (ps_if (pt_val (pe_callB (call_isP hp) (by rfl) B.zisinstance (by decide +kernel) (pa_cons (pv 0) (pa_cons (pe_gref N.InvalidNumber) pa_nil)))) (pss_one (ps_expr (pe_bm PySem.F.plainAttrs_list PySem.F.slot_list_append PySem.F.type_list_append mt_append (pv 1) (pa_cons (pe_tup (pa_cons pe_str (pa_cons (pe_err hp (pv 0)) pa_nil))) pa_nil)))) pss_nil)
      (C8.pss_cut (ps_if (pt_val (pe_callB (call_isP hp) (by rfl) B.zisinstance (by decide +kernel) (pa_cons (pv 0) (pa_cons (pe_gref N.InvalidRule) pa_nil)))) (pss_one (ps_expr (pe_bm PySem.F.plainAttrs_list PySem.F.slot_list_append PySem.F.type_list_append mt_append (pv 1) (pa_cons (pe_tup (pa_cons pe_str (pa_cons (pe_err hp (pv 0)) pa_nil))) pa_nil)))) pss_nil)
      (C8.pss_cut (ps_if (pt_val (pe_callB (call_isP hp) (by rfl) B.zisinstance (by decide +kernel) (pa_cons (pv 0) (pa_cons (pe_gref N.InvalidStanding) pa_nil)))) (pss_one (ps_expr (pe_bm PySem.F.plainAttrs_list PySem.F.slot_list_append PySem.F.type_list_append mt_append (pv 1) (pa_cons (pe_tup (pa_cons pe_str (pa_cons (pe_err hp (pv 0)) pa_nil))) pa_nil)))) pss_nil)
      (C8.pss_cut (ps_if (pt_val (pe_callB (call_isP hp) (by rfl) B.zisinstance (by decide +kernel) (pa_cons (pv 0) (pa_cons (pe_gref N.InvalidTable) pa_nil)))) (pss_one (ps_expr (pe_bm PySem.F.plainAttrs_list PySem.F.slot_list_append PySem.F.type_list_append mt_append (pv 1) (pa_cons (pe_tup (pa_cons pe_str (pa_cons (pe_err hp (pv 0)) pa_nil))) pa_nil)))) pss_nil)
      (C8.pss_cut (ps_if (pt_val (pe_callB (call_isP hp) (by rfl) B.zisinstance (by decide +kernel) (pa_cons (pv 0) (pa_cons (pe_gref N.InvalidLates) pa_nil)))) (pss_one (ps_expr (pe_bm PySem.F.plainAttrs_list PySem.F.slot_list_append PySem.F.type_list_append mt_append (pv 1) (pa_cons (pe_tup (pa_cons pe_str (pa_cons (pe_err hp (pv 0)) pa_nil))) pa_nil)))) pss_nil)
      (C8.pss_cut (ps_if (pt_val (pe_callB (call_isP hp) (by rfl) B.zisinstance (by decide +kernel) (pa_cons (pv 0) (pa_cons (pe_gref N.InvalidCounts) pa_nil)))) (pss_one (ps_expr (pe_bm PySem.F.plainAttrs_list PySem.F.slot_list_append PySem.F.type_list_append mt_append (pv 1) (pa_cons (pe_tup (pa_cons pe_str (pa_cons (pe_err hp (pv 0)) pa_nil))) pa_nil)))) pss_nil)
      (C8.pss_cut (ps_if (pt_val (pe_callB (call_isP hp) (by rfl) B.zisinstance (by decide +kernel) (pa_cons (pv 0) (pa_cons (pe_gref N.TooMany) pa_nil)))) (pss_one (ps_expr (pe_bm PySem.F.plainAttrs_list PySem.F.slot_list_append PySem.F.type_list_append mt_append (pv 1) (pa_cons (pe_tup (pa_cons pe_str (pa_cons (pe_err hp (pv 0)) pa_nil))) pa_nil)))) pss_nil)
      (pss_one (ps_ret (pe_ifExp (pt_cmpR op_eq (pe_callB call_len_seq (by rfl) B.zlen (by decide +kernel) (pa_cons (pv 1) pa_nil)) pe_int (nomark _)) (pe_ix ix_list (pv 1) pe_int (fun _ _ => rfl)) pe_non))))))))))))), ?_⟩
  refine ⟨by show 0 ≤ sizeLine; decide, fun L hL => ?_⟩
  have m : SortMid p.1 L H i t v 0 [some (.ref p.1), some (.ref L)] (upd H L (.lst [])) := ⟨same_new hL, rfl, .inl ⟨Nat.zero_le _, upd_same⟩⟩
  have hLH : H L = none := hL
  obtain ⟨sm, _, hc⟩ := m
  refine ⟨SortMid p.1 L H i t v 1, ?_, ?_⟩
  · refine ⟨_, rfl, _, _, _, C, _, rfl, (fun _ h => h), hK, hE.mono sm, hI.k 0 _ rfl, _, rfl, ?_⟩
    by_cases e : 0 = i
    · subst e
      rw [decide_eq_true rfl]
      rcases hc with ⟨_, eL⟩ | ⟨z, _⟩
      case inr => omega
      cases ht
      refine iteT ⟨_, rfl, .inl ⟨rfl, _, SqL.of eL⟩, ?_⟩
      refine ⟨_, rfl, rfl, C, _, v, hK, hf, hE.mono sm, rfl, by show 2 ≤ sizeLine; decide, fun tp htp => ?_⟩
      have nt : tp ≠ L := fun z => by rw [z, eL] at htp; cases htp
      refine ⟨L, [], .ref tp, rfl, rfl, (same_new htp) _ _ eL, by decide, ?_⟩
      exact ⟨Same.app hLH (sm.trans (same_new htp)), rfl, .inr ⟨by decide, tp, upd_same, by rw [upd_ne nt]; exact upd_same⟩⟩
    · rw [decide_eq_false e]
      refine iteF ⟨sm, rfl, ?_⟩
      rcases hc with ⟨z, eL⟩ | ⟨z, eL⟩
      · exact .inl ⟨by omega, eL⟩
      · exact .inr ⟨by omega, eL⟩
  clear hc sm
  clear hL
  intro σ1 H1 m
  obtain ⟨sm, rfl, hc⟩ := m
  refine ⟨SortMid p.1 L H i t v 2, ?_, ?_⟩
  · refine ⟨_, rfl, _, _, _, C, _, rfl, (fun _ h => h), hK, hE.mono sm, hI.k 1 _ rfl, _, rfl, ?_⟩
    by_cases e : 1 = i
    · subst e
      rw [decide_eq_true rfl]
      rcases hc with ⟨_, eL⟩ | ⟨z, _⟩
      case inr => omega
      cases ht
      refine iteT ⟨_, rfl, .inl ⟨rfl, _, SqL.of eL⟩, ?_⟩
      refine ⟨_, rfl, rfl, C, _, v, hK, hf, hE.mono sm, rfl, by show 2 ≤ sizeLine; decide, fun tp htp => ?_⟩
      have nt : tp ≠ L := fun z => by rw [z, eL] at htp; cases htp
      refine ⟨L, [], .ref tp, rfl, rfl, (same_new htp) _ _ eL, by decide, ?_⟩
      exact ⟨Same.app hLH (sm.trans (same_new htp)), rfl, .inr ⟨by decide, tp, upd_same, by rw [upd_ne nt]; exact upd_same⟩⟩
    · rw [decide_eq_false e]
      refine iteF ⟨sm, rfl, ?_⟩
      rcases hc with ⟨z, eL⟩ | ⟨z, eL⟩
      · exact .inl ⟨by omega, eL⟩
      · exact .inr ⟨by omega, eL⟩
  clear hc sm
  intro σ2 H2 m
  obtain ⟨sm, rfl, hc⟩ := m
  refine ⟨SortMid p.1 L H i t v 3, ?_, ?_⟩
  · refine ⟨_, rfl, _, _, _, C, _, rfl, (fun _ h => h), hK, hE.mono sm, hI.k 2 _ rfl, _, rfl, ?_⟩
    by_cases e : 2 = i
    · subst e
      rw [decide_eq_true rfl]
      rcases hc with ⟨_, eL⟩ | ⟨z, _⟩
      case inr => omega
      cases ht
      refine iteT ⟨_, rfl, .inl ⟨rfl, _, SqL.of eL⟩, ?_⟩
      refine ⟨_, rfl, rfl, C, _, v, hK, hf, hE.mono sm, rfl, by show 2 ≤ sizeLine; decide, fun tp htp => ?_⟩
      have nt : tp ≠ L := fun z => by rw [z, eL] at htp; cases htp
      refine ⟨L, [], .ref tp, rfl, rfl, (same_new htp) _ _ eL, by decide, ?_⟩
      exact ⟨Same.app hLH (sm.trans (same_new htp)), rfl, .inr ⟨by decide, tp, upd_same, by rw [upd_ne nt]; exact upd_same⟩⟩
    · rw [decide_eq_false e]
      refine iteF ⟨sm, rfl, ?_⟩
      rcases hc with ⟨z, eL⟩ | ⟨z, eL⟩
      · exact .inl ⟨by omega, eL⟩
      · exact .inr ⟨by omega, eL⟩
  clear hc sm
  intro σ3 H3 m
  obtain ⟨sm, rfl, hc⟩ := m
  refine ⟨SortMid p.1 L H i t v 4, ?_, ?_⟩
  · refine ⟨_, rfl, _, _, _, C, _, rfl, (fun _ h => h), hK, hE.mono sm, hI.k 3 _ rfl, _, rfl, ?_⟩
    by_cases e : 3 = i
    · subst e
      rw [decide_eq_true rfl]
      rcases hc with ⟨_, eL⟩ | ⟨z, _⟩
      case inr => omega
      cases ht
      refine iteT ⟨_, rfl, .inl ⟨rfl, _, SqL.of eL⟩, ?_⟩
      refine ⟨_, rfl, rfl, C, _, v, hK, hf, hE.mono sm, rfl, by show 2 ≤ sizeLine; decide, fun tp htp => ?_⟩
      have nt : tp ≠ L := fun z => by rw [z, eL] at htp; cases htp
      refine ⟨L, [], .ref tp, rfl, rfl, (same_new htp) _ _ eL, by decide, ?_⟩
      exact ⟨Same.app hLH (sm.trans (same_new htp)), rfl, .inr ⟨by decide, tp, upd_same, by rw [upd_ne nt]; exact upd_same⟩⟩
    · rw [decide_eq_false e]
      refine iteF ⟨sm, rfl, ?_⟩
      rcases hc with ⟨z, eL⟩ | ⟨z, eL⟩
      · exact .inl ⟨by omega, eL⟩
      · exact .inr ⟨by omega, eL⟩
  clear hc sm
  intro σ4 H4 m
  obtain ⟨sm, rfl, hc⟩ := m
  refine ⟨SortMid p.1 L H i t v 5, ?_, ?_⟩
  · refine ⟨_, rfl, _, _, _, C, _, rfl, (fun _ h => h), hK, hE.mono sm, hI.k 4 _ rfl, _, rfl, ?_⟩
    by_cases e : 4 = i
    · subst e
      rw [decide_eq_true rfl]
      rcases hc with ⟨_, eL⟩ | ⟨z, _⟩
      case inr => omega
      cases ht
      refine iteT ⟨_, rfl, .inl ⟨rfl, _, SqL.of eL⟩, ?_⟩
      refine ⟨_, rfl, rfl, C, _, v, hK, hf, hE.mono sm, rfl, by show 2 ≤ sizeLine; decide, fun tp htp => ?_⟩
      have nt : tp ≠ L := fun z => by rw [z, eL] at htp; cases htp
      refine ⟨L, [], .ref tp, rfl, rfl, (same_new htp) _ _ eL, by decide, ?_⟩
      exact ⟨Same.app hLH (sm.trans (same_new htp)), rfl, .inr ⟨by decide, tp, upd_same, by rw [upd_ne nt]; exact upd_same⟩⟩
    · rw [decide_eq_false e]
      refine iteF ⟨sm, rfl, ?_⟩
      rcases hc with ⟨z, eL⟩ | ⟨z, eL⟩
      · exact .inl ⟨by omega, eL⟩
      · exact .inr ⟨by omega, eL⟩
  clear hc sm
  intro σ5 H5 m
  obtain ⟨sm, rfl, hc⟩ := m
  refine ⟨SortMid p.1 L H i t v 6, ?_, ?_⟩
  · refine ⟨_, rfl, _, _, _, C, _, rfl, (fun _ h => h), hK, hE.mono sm, hI.k 5 _ rfl, _, rfl, ?_⟩
    by_cases e : 5 = i
    · subst e
      rw [decide_eq_true rfl]
      rcases hc with ⟨_, eL⟩ | ⟨z, _⟩
      case inr => omega
      cases ht
      refine iteT ⟨_, rfl, .inl ⟨rfl, _, SqL.of eL⟩, ?_⟩
      refine ⟨_, rfl, rfl, C, _, v, hK, hf, hE.mono sm, rfl, by show 2 ≤ sizeLine; decide, fun tp htp => ?_⟩
      have nt : tp ≠ L := fun z => by rw [z, eL] at htp; cases htp
      refine ⟨L, [], .ref tp, rfl, rfl, (same_new htp) _ _ eL, by decide, ?_⟩
      exact ⟨Same.app hLH (sm.trans (same_new htp)), rfl, .inr ⟨by decide, tp, upd_same, by rw [upd_ne nt]; exact upd_same⟩⟩
    · rw [decide_eq_false e]
      refine iteF ⟨sm, rfl, ?_⟩
      rcases hc with ⟨z, eL⟩ | ⟨z, eL⟩
      · exact .inl ⟨by omega, eL⟩
      · exact .inr ⟨by omega, eL⟩
  clear hc sm
  intro σ6 H6 m
  obtain ⟨sm, rfl, hc⟩ := m
  refine ⟨SortMid p.1 L H i t v 7, ?_, ?_⟩
  · refine ⟨_, rfl, _, _, _, C, _, rfl, (fun _ h => h), hK, hE.mono sm, hI.k 6 _ rfl, _, rfl, ?_⟩
    by_cases e : 6 = i
    · subst e
      rw [decide_eq_true rfl]
      rcases hc with ⟨_, eL⟩ | ⟨z, _⟩
      case inr => omega
      cases ht
      refine iteT ⟨_, rfl, .inl ⟨rfl, _, SqL.of eL⟩, ?_⟩
      refine ⟨_, rfl, rfl, C, _, v, hK, hf, hE.mono sm, rfl, by show 2 ≤ sizeLine; decide, fun tp htp => ?_⟩
      have nt : tp ≠ L := fun z => by rw [z, eL] at htp; cases htp
      refine ⟨L, [], .ref tp, rfl, rfl, (same_new htp) _ _ eL, by decide, ?_⟩
      exact ⟨Same.app hLH (sm.trans (same_new htp)), rfl, .inr ⟨by decide, tp, upd_same, by rw [upd_ne nt]; exact upd_same⟩⟩
    · rw [decide_eq_false e]
      refine iteF ⟨sm, rfl, ?_⟩
      rcases hc with ⟨z, eL⟩ | ⟨z, eL⟩
      · exact .inl ⟨by omega, eL⟩
      · exact .inr ⟨by omega, eL⟩
  clear hc sm
  intro σ7 H7 m
  obtain ⟨sm, rfl, hc⟩ := m
  refine ⟨SortMid p.1 L H i t v 8, ?_, ?_⟩
  · refine ⟨_, rfl, _, _, _, C, _, rfl, (fun _ h => h), hK, hE.mono sm, hI.k 7 _ rfl, _, rfl, ?_⟩
    by_cases e : 7 = i
    · subst e
      rw [decide_eq_true rfl]
      rcases hc with ⟨_, eL⟩ | ⟨z, _⟩
      case inr => omega
      cases ht
      refine iteT ⟨_, rfl, .inl ⟨rfl, _, SqL.of eL⟩, ?_⟩
      refine ⟨_, rfl, rfl, C, _, v, hK, hf, hE.mono sm, rfl, by show 2 ≤ sizeLine; decide, fun tp htp => ?_⟩
      have nt : tp ≠ L := fun z => by rw [z, eL] at htp; cases htp
      refine ⟨L, [], .ref tp, rfl, rfl, (same_new htp) _ _ eL, by decide, ?_⟩
      exact ⟨Same.app hLH (sm.trans (same_new htp)), rfl, .inr ⟨by decide, tp, upd_same, by rw [upd_ne nt]; exact upd_same⟩⟩
    · rw [decide_eq_false e]
      refine iteF ⟨sm, rfl, ?_⟩
      rcases hc with ⟨z, eL⟩ | ⟨z, eL⟩
      · exact .inl ⟨by omega, eL⟩
      · exact .inr ⟨by omega, eL⟩
  clear hc sm
  intro σ8 H8 m
  obtain ⟨sm, rfl, hc⟩ := m
  refine ⟨SortMid p.1 L H i t v 9, ?_, ?_⟩
  · refine ⟨_, rfl, _, _, _, C, _, rfl, (fun _ h => h), hK, hE.mono sm, hI.k 8 _ rfl, _, rfl, ?_⟩
    by_cases e : 8 = i
    · subst e
      rw [decide_eq_true rfl]
      rcases hc with ⟨_, eL⟩ | ⟨z, _⟩
      case inr => omega
      cases ht
      refine iteT ⟨_, rfl, .inl ⟨rfl, _, SqL.of eL⟩, ?_⟩
      refine ⟨_, rfl, rfl, C, _, v, hK, hf, hE.mono sm, rfl, by show 2 ≤ sizeLine; decide, fun tp htp => ?_⟩
      have nt : tp ≠ L := fun z => by rw [z, eL] at htp; cases htp
      refine ⟨L, [], .ref tp, rfl, rfl, (same_new htp) _ _ eL, by decide, ?_⟩
      exact ⟨Same.app hLH (sm.trans (same_new htp)), rfl, .inr ⟨by decide, tp, upd_same, by rw [upd_ne nt]; exact upd_same⟩⟩
    · rw [decide_eq_false e]
      refine iteF ⟨sm, rfl, ?_⟩
      rcases hc with ⟨z, eL⟩ | ⟨z, eL⟩
      · exact .inl ⟨by omega, eL⟩
      · exact .inr ⟨by omega, eL⟩
  clear hc sm
  rintro σ9 H9 ⟨sm, rfl, hc⟩
  have i9 := hI.i9
  rcases hc with ⟨z, _⟩ | ⟨_, tp, eL, et⟩
  · omega
  refine ⟨_, rfl, L, _, rfl, .inl (SqL.of eL), rfl, _, rfl, ?_⟩
  refine iteT ⟨_, rfl, L, _, 0, .ref tp, rfl, rfl, SqL.of eL, atI_nat (j := 0) rfl, ?_⟩
  exact q tp H9 sm et
end
end Ts
namespace Ts
open PySem PySem.Spec PyProof.Rows L2 L2H LamX
section
theorem caught_gives {X : Cx} {q : Str} {g : Addr} {cdg : Value} {c : Cls9} {b : Bas3} (N : ErrN9 X.mg c b) (B : Blt0 X.mg) (h__law_sort : HasP X.prog X.w X.K X.mg X.base 1 "_law_sort" ["_law_e"] (spSort X.K c)) (hg : X.A.guards = some []) (hr : Room 6 X.A) :
    GivesTo X ["_law_act", "_law_given", "_law_e"] "_law_caught" (defScope s__law_caught) g cdg (defBody s__law_caught) "_law_act" q (TTcaught X.K c b) := by
  obtain ⟨P, w, K, mg, base, A, N0, s0, H0, env, outer, stack, ex, fn, calm, pn0, xe0⟩ := X
  dsimp only at N B h__law_sort hg hr
  intro f c' s H Q tl act hc h
  dsimp only at act
  have S := sc__law_caught
  have hr1 : RoomH 4 (A.deeper (envOfC "_law_caught" (defScope s__law_caught) s.heap.objs.size g cdg)) := RoomH.deeper (roomH_of (hr.mono (by decide))) _
  have hg1 : (A.deeper (envOfC "_law_caught" (defScope s__law_caught) s.heap.objs.size g cdg)).guards = some [] := hg
  refine ⟨_, pss_cons (ps_try_tup3 (X := (cxOf C8.CX0 P w K mg base ["_law_act", "_law_given", "_law_e"] "_law_caught" (defScope s__law_caught) g cdg A stack s H C8.E0).nox) (i := 2) (tb := fun W D σ H1 => ∃ Ech : XK, (∀ cls d σ' H', Ech cls d H' → W cls d σ' H') ∧ ∃ Q' : VK, (∀ v H', Q' v H' → D.nx (σ.set 1 (some v)) H') ∧ σ[0]? = some (some (.ref f)) ∧ H1 c' = some (CodeO c' q) ∧ tl Ech H1 Q')
    (ts := fun a cls d D σ H1 => (σ.length = 3 → σ[2]? = some (some (.ref a))) ∧ ∃ (C dd : Addr) (i : Nat) (t : Str) (v : V), cls = .ref C ∧ ExcK K C ∧ IsSort K c C i ∧ sortWords[i]? = some t ∧ d = some dd ∧ H1 dd = some (.xd [(sortField i, v)]) ∧ PySem.W.findIn K (.ref C) (sortField i) = some none ∧ ∀ (l : Addr) (H2 : Hp), Same H1 H2 → H2 l = some (.tup [.str t, v]) → D.rt (.ref l) H2)
    rfl rfl S.nd rfl rfl ⟨rfl, by decide, .inl N.WrongValue⟩ ⟨rfl, by decide, .inl N.WrongName⟩ ⟨rfl, by decide, .inl N.NoAnswer⟩ (fun W pn xe tk po => ⟨fun pins s' σ H' D I ⟨Ech, hW, Q', hQ, h0, h1, h2⟩ => (pss_one (ps_set (i := 1) (te := fun σ H Q => ∃ Q' : VK, (∀ v H', Q' v H' → Q v H') ∧ σ[0]? = some (some (.ref f)) ∧ H c' = some (CodeO c' q) ∧ tl Ech H Q') S.nd rfl (.inl rfl) ⟨fun pins s σ H Q I ⟨Q', hQ, h0, h1, h2⟩ => thn ((act W pn xe Ech _ _ tk hW).run pins s σ H Q' I ⟨h0, h1, h2⟩) fun _ _ ⟨v, H2, I2, r2, q2⟩ => ⟨v, H2, I2, r2, hQ _ _ q2⟩⟩)).run pins s' σ H' D I ⟨Q', hQ, h0, h1, h2⟩⟩) (fun a oe cls d pn hz hf => ⟨fun pins s' σ H' D I hh => ?_⟩)) (pss_one (ps_ret (pe_tup (pa_cons pe_str (pa_cons (pv 1) pa_nil))))), ?_⟩
  · obtain ⟨hl, C, dd, i, t, v, rfl, hK, hI, ht, rfl, hx, hn, q⟩ := hh
    have len := I.len
    have hr2 : RoomH 4 (((cxOf C8.CX0 P w K mg base ["_law_act", "_law_given", "_law_e"] "_law_caught" (defScope s__law_caught) g cdg A stack s H C8.E0).nox.suite a ((a, oe) :: pn))).A := ⟨hr1.dp, hr1.un⟩
    have hp : ((a, oe) : Addr × Obj) ∈ (((cxOf C8.CX0 P w K mg base ["_law_act", "_law_given", "_law_e"] "_law_caught" (defScope s__law_caught) g cdg A stack s H C8.E0).nox.suite a ((a, oe) :: pn))).pn := List.mem_cons_self
    have hE : ErrAt H' (a, oe) C [(sortField i, v)] := ⟨hf, .inl ⟨dd, hz, hx⟩⟩
    refine PSs.run (X := ((cxOf C8.CX0 P w K mg base ["_law_act", "_law_given", "_law_e"] "_law_caught" (defScope s__law_caught) g cdg A stack s H C8.E0).nox.suite a ((a, oe) :: pn))) (t := tRet (tCall (spSort K c (a, oe)) [] E0 (tCons (tVar 2) tNil))) ?hh pins s' σ H' D I ?gg
    case hh => exact (pss_one (ps_ret (pe_p h__law_sort hp (hr2.mono (by decide)) (pa_cons (pv 2) pa_nil))))
    have len3 : σ.length = 3 := len
    obtain ⟨w0, w1, w2, rfl⟩ : ∃ w0 w1 w2, σ = [w0, w1, w2] := by
      match σ, len3 with
      | [w0, w1, w2], _ => exact ⟨w0, w1, w2, rfl⟩
    have e2 : w2 = some (.ref a) := Option.some.inj (hl rfl)
    subst e2
    exact ⟨_, rfl, C, i, t, v, rfl, hK, hE, hI, hn, ht, fun l H2 s2 e => q l H2 s2 e⟩
  · obtain ⟨E', Q', ht, hE', hQ'⟩ := h
    refine ⟨E', fun cls d σ' H' hx => ?_, Q', fun v H' hq => ?_, rfl, hc, ht⟩
    · obtain ⟨C, dd, i, t, v, rfl, hK, hI, ht, hm, rfl, hxx, hn, q⟩ := hE' _ _ _ hx
      refine ⟨hm, fun a _ => ⟨fun hl => ?_, C, dd, i, t, v, rfl, hK, hI, ht, rfl, hxx, hn, q⟩⟩
      rw [List.length_set] at hl
      rw [List.getElem?_set_self (by omega)]
    · have q := hQ' _ _ hq
      exact ⟨_, rfl, by show 2 ≤ sizeLine; decide, fun l hl => q l _ (same_new hl) upd_same⟩
/-- .. where several tables of code are tracked -/
theorem pe_caught3 {X : Cx} {c : Cls9} {b : Bas3} {T : List (Addr × Str)} {cd PT : Addr} {k : Nat} {t : XK → TE} {params : Arguments} {body : Expr} {scope : Scope} {p lpos pos : Pos}
    (D : DefAt X.K X.mg "_law_caught" s__law_caught) (N : ErrN9 X.mg c b) (B : Blt0 X.mg) (hcl : HasP X.prog X.w X.K X.mg X.base 1 "_law_sort" ["_law_e"] (spSort X.K c)) (hg : X.A.guards = some []) (hr : Room (k + 2) X.A) (h6 : 6 ≤ k + 2)
    (TB : TabB X.base X.mg cd PT) (hcode : X.env.code = .ref cd) (hmT : (PT, X.env.qual ++ "<lambda>") ∈ T) (hu : ∀ p ∈ T, p.1 = PT → p.2 = X.env.qual ++ "<lambda>") (L : LamS X.env.scope scope)
    (hbody : ∀ (A : Around) (outer : List Env) (s : Shared) (H : Hp) (E : XK) (f c' : Addr), Room k (A.deeper (lamEnv X scope s.heap.objs.size f c')) → PE (lamCx X A outer s H E scope f c') body (t E))
    (hdef : defaultsOf params X.env = ([], []) := by rfl) (hbind : ∀ (q : Str) (cl : List (Str × Addr)) (pm cv ctv : Value), bindArgs (PySem.W.kla_fn "<lambda>" q params body scope cl pm cv ctv) ⟨[], []⟩ = pure [] := by intros; rfl) (hgl : Gl X "_law_caught" := by rfl) :
    PE X (.Call (.Name "_law_caught" p) [.Lambda params body scope lpos] [] pos) (tLam T (TTcaught X.K c b) t) := by
  obtain ⟨f, fd, F, hm⟩ := D.ex
  have Bd := F.binds (ps := ["_law_act"]) (fun _ _ _ _ _ _ us hl => match us, hl with | [_], _ => rfl)
  have kp := F.kp
  obtain ⟨oc, od, kV, doc, pm, an, cdv, ct, osl, rfl, lk, hcd⟩ := F.ex
  exact pe_lamcall hgl hm kp lk hcd Bd sc__law_caught rfl (.inl (by decide +kernel)) (caught_gives N B hcl hg (hr.mono h6)) TB hcode hmT hu hr L hdef hbind hbody
end
end Ts
namespace Ts
open PySem PySem.Spec PyProof.Rows L2 L2H LamX
section
variable {P : Program} {w : World} {K : PySem.W.Frag} {mg : Str → Option Value} {base : Heap}
theorem has_oddJ (D : DefAt K mg "_law_odd" s__law_odd) (h__law_take : Has P w K mg base 2 "_law_take" ["_law_jar_here", "_law_some"] (spTakeJ K)) : Has P w K mg base 3 "_law_odd" ["_law_jar_here"] (spOddJ K) := by
  refine D.has (fun _ _ _ _ _ _ us hl => match us, hl with | [_], _ => rfl) fun f fd F => F.ok sc__law_odd (fun vs H Q E h => ?_) (fun cdv A outer s H vs Q E hr h => ?_)
  · obtain ⟨b, rfl, _⟩ := h; rfl
  obtain ⟨b, rfl, hB, q⟩ := h
  refine ⟨_, (pss_one (ps_ret (pe_h h__law_take (hr.mono (by decide)) (pa_cons (pv 0) (pa_cons (pe_lst (pa_cons pe_non (pa_cons pe_int (pa_cons pe_bl (pa_cons pe_str (pa_cons pe_str (pa_cons (pe_tup pa_nil) (pa_cons (pe_lst pa_nil) (pa_cons pe_dnewK (pa_cons (pe_tup (pa_cons pe_str pa_nil)) (pa_cons pe_int pa_nil))))))))))) pa_nil))))), ?_⟩
  refine ⟨_, rfl, by show 0 ≤ sizeLine; decide, fun q1 h1 => ⟨by show 0 ≤ sizeLine; decide, fun q2 h2 => fun q3 h3 => ⟨by show 1 ≤ sizeLine; decide, fun q4 h4 => ⟨by show 10 ≤ sizeLine; decide, fun M hM => ?_⟩⟩⟩⟩
  refine at_heap2 (fun Hx => Same H Hx ∧ Hx q1 = some (.tup []) ∧ Hx q2 = some (.lst []) ∧ Hx q3 = some (.dK []) ∧ Hx q4 = some (.tup [.str "a"]) ∧ Hx M = some (.lst [.non, .int 0, .bl true, .str "hands 1\nwork a 1/2", .str "", .ref q1, .ref q2, .ref q3, .ref q4, .int 3])) ⟨(same_new h1).trans ((same_new h2).trans ((same_new h3).trans ((same_new h4).trans (same_new hM)))), same_new hM _ _ (same_new h4 _ _ (same_new h3 _ _ (same_new h2 _ _ upd_same))), same_new hM _ _ (same_new h4 _ _ (same_new h3 _ _ upd_same)), same_new hM _ _ (same_new h4 _ _ upd_same), same_new hM _ _ upd_same, upd_same⟩ ?_
  rintro He ⟨se, f1, f2, f3, f4, fM⟩
  have m1 : q1 ≠ b := hB.off h1
  have m2 : q2 ≠ b := (hB.on (same_new h1)).off h2
  have m3 : q3 ≠ b := (hB.on ((same_new h1).trans (same_new h2))).off h3
  have m4 : q4 ≠ b := (hB.on ((same_new h1).trans ((same_new h2).trans (same_new h3)))).off h4
  have nM : M ≠ b := (hB.on ((same_new h1).trans ((same_new h2).trans ((same_new h3).trans (same_new h4))))).off hM
  clear hM h4 h3 h2 h1
  have Be := hB.on se
  have OM : ∀ v ∈ [V.non, .int 0, .bl true, .str "hands 1\nwork a 1/2", .str "", .ref q1, .ref q2, .ref q3, .ref q4, .int 3], (∃ o, AnyV K (hid b He) v o) ∧ Flat v := by
    intro v hv
    rcases List.mem_cons.mp hv with rfl | hv
    · exact ⟨⟨some .none, .non⟩, .inr (.inl rfl)⟩
    rcases List.mem_cons.mp hv with rfl | hv
    · exact ⟨⟨some (.int 0), .int _⟩, .inr (.inr (.inr (.inl ⟨_, rfl⟩)))⟩
    rcases List.mem_cons.mp hv with rfl | hv
    · exact ⟨⟨some (.bool true), .bl _⟩, .inr (.inr (.inl ⟨_, rfl⟩))⟩
    rcases List.mem_cons.mp hv with rfl | hv
    · exact ⟨⟨some (.str _), .str _⟩, .inr (.inr (.inr (.inr ⟨_, rfl⟩)))⟩
    rcases List.mem_cons.mp hv with rfl | hv
    · exact ⟨⟨some (.str _), .str _⟩, .inr (.inr (.inr (.inr ⟨_, rfl⟩)))⟩
    rcases List.mem_cons.mp hv with rfl | hv
    · exact ⟨⟨some (.tuple []), .tup (SqT.of ((hid_ne m1).trans f1)) .nil⟩, .inl ⟨_, rfl⟩⟩
    rcases List.mem_cons.mp hv with rfl | hv
    · exact ⟨⟨some (.list []), .lst (SqL.of ((hid_ne m2).trans f2)) .nil⟩, .inl ⟨_, rfl⟩⟩
    rcases List.mem_cons.mp hv with rfl | hv
    · exact ⟨⟨none, _, rfl, (hid_ne m3).trans f3⟩, .inl ⟨_, rfl⟩⟩
    rcases List.mem_cons.mp hv with rfl | hv
    · exact ⟨⟨some (.tuple [.str "a"]), .tup (SqT.of ((hid_ne m4).trans f4)) (.cons (.str _) .nil)⟩, .inl ⟨_, rfl⟩⟩
    rcases List.mem_cons.mp hv with rfl | hv
    · exact ⟨⟨some (.int 3), .int _⟩, .inr (.inr (.inr (.inl ⟨_, rfl⟩)))⟩
    · cases hv
  refine ⟨b, M, _, rfl, Be, SqL.of ((hid_ne nM).trans fM), (show 0 < 10 by decide), (show 10 ≤ 1000 by decide), fun v H' hv b1 B1 => ?_⟩
  obtain ⟨⟨o, ho⟩, fl⟩ := OM v hv
  exact q v H' ((But.of_same se).trans b1) B1 (ho.mono b1.hid).noLot fl
end
end Ts
namespace Ts
open PySem PySem.Spec PyProof.Rows L2 L2H LamX
section
variable {P : Program} {w : World} {K : PySem.W.Frag} {mg : Str → Option Value} {base : Heap}
theorem has_rulesJ (D : DefAt K mg "_law_rules" s__law_rules) : Has P w K mg base 1 "_law_rules" [] (spRulesJ K) := by
  refine D.has (fun _ _ _ _ _ _ us hl => match us, hl with | [], _ => rfl) fun f fd F => F.ok sc__law_rules (fun vs H Q E h => ?_) (fun cdv A outer s H vs Q E hr h => ?_)
  · obtain ⟨rfl, _⟩ := h; rfl
  obtain ⟨rfl, q⟩ := h
  refine ⟨_, (pss_one (ps_ret (pe_lst (pa_cons pe_str (pa_cons pe_str (pa_cons pe_str (pa_cons pe_str pa_nil))))))), ?_⟩
  exact ⟨by show 4 ≤ sizeLine; decide, fun p hp => q p _ hp (same_new hp) upd_same⟩
end
end Ts
namespace Ts
open PySem PySem.Spec PyProof.Rows L2 L2H LamX
section
variable {P : Program} {w : World} {K : PySem.W.Frag} {mg : Str → Option Value} {base : Heap}
theorem has_wrong44 (D : DefAt K mg "_law_wrong" s__law_wrong) (B : Blt0 mg) : Has P w K mg base 1 "_law_wrong" ["_law_a", "_law_b"] (spWrong44 K) := by
  refine D.has (fun _ _ _ _ _ _ us hl => match us, hl with | [_, _], _ => rfl) fun f fd F => F.ok sc__law_wrong (fun vs H Q E h => ?_) (fun cdv A outer s H vs Q E hr h => ?_)
  · obtain ⟨a, b, rfl, _⟩ := h; rfl
  obtain ⟨a, b, rfl, lb, q⟩ := h
  refine ⟨_, (pss_cons (ps_set (i := 2) sc__law_wrong.nd rfl (.inl rfl) (pe_tup (pa_cons (pv 0) (pa_cons pe_int (pa_cons pe_int pa_nil)))))
      (pss_cons (ps_set (i := 3) sc__law_wrong.nd rfl (.inl rfl) (pe_lst (pa_cons (pe_tup (pa_cons pe_non (pa_cons pe_non pa_nil))) (pa_cons (pe_tup (pa_cons (pe_lst (pa_cons (pv 2) pa_nil)) (pa_cons pe_non pa_nil))) (pa_cons (pe_tup (pa_cons pe_str (pa_cons pe_non pa_nil))) (pa_cons (pe_tup (pa_cons pe_int (pa_cons pe_non pa_nil))) (pa_cons (pe_tup (pa_cons (pe_tup (pa_cons (pv 2) (pa_cons (pv 2) pa_nil))) (pa_cons pe_int pa_nil))) (pa_cons (pe_tup (pa_cons (pe_tup (pa_cons (pv 2) (pa_cons (pe_tup (pa_cons (pv 0) (pa_cons pe_int (pa_cons pe_int pa_nil)))) pa_nil))) (pa_cons pe_int pa_nil))) pa_nil))))))))
      (pss_cons (ps_set (i := 3) sc__law_wrong.nd rfl (.inl rfl) (pe_op op_cat (pv 3) (pe_lst (pa_cons (pe_tup (pa_cons (pe_tup (pa_cons pe_non pa_nil)) (pa_cons pe_int pa_nil))) (pa_cons (pe_tup (pa_cons (pe_tup (pa_cons (pe_tup (pa_cons (pv 0) (pa_cons pe_int pa_nil))) pa_nil)) (pa_cons pe_int pa_nil))) (pa_cons (pe_tup (pa_cons (pe_tup (pa_cons (pe_tup (pa_cons (pv 0) (pa_cons pe_int (pa_cons pe_int pa_nil)))) pa_nil)) (pa_cons pe_int pa_nil))) (pa_cons (pe_tup (pa_cons (pe_tup (pa_cons (pe_tup (pa_cons (pv 0) (pa_cons pe_int (pa_cons pe_int pa_nil)))) pa_nil)) (pa_cons pe_int pa_nil))) (pa_cons (pe_tup (pa_cons (pe_tup (pa_cons (pe_tup (pa_cons (pv 0) (pa_cons pe_bl (pa_cons pe_int pa_nil)))) pa_nil)) (pa_cons pe_int pa_nil))) pa_nil))))))))
      (pss_cons (ps_set (i := 3) sc__law_wrong.nd rfl (.inl rfl) (pe_op op_cat (pv 3) (pe_lst (pa_cons (pe_tup (pa_cons (pe_tup (pa_cons (pe_tup (pa_cons (pv 0) (pa_cons (pe_op op_add (pe_op op_pow pe_int pe_int) pe_int) (pa_cons pe_int pa_nil)))) pa_nil)) (pa_cons pe_int pa_nil))) (pa_cons (pe_tup (pa_cons (pe_tup (pa_cons (pe_tup (pa_cons (pv 0) (pa_cons pe_int (pa_cons (pe_op op_add (pe_op op_pow pe_int pe_int) pe_int) pa_nil)))) pa_nil)) (pa_cons pe_int pa_nil))) (pa_cons (pe_tup (pa_cons (pe_tup (pa_cons (pe_tup (pa_cons (pv 0) (pa_cons pe_int (pa_cons pe_str pa_nil)))) pa_nil)) (pa_cons pe_int pa_nil))) pa_nil))))))
      (pss_cons (ps_set (i := 3) sc__law_wrong.nd rfl (.inl rfl) (pe_op op_cat (pv 3) (pe_lst (pa_cons (pe_tup (pa_cons (pe_tup (pa_cons (pe_lst (pa_cons (pv 0) (pa_cons pe_int (pa_cons pe_int pa_nil)))) pa_nil)) (pa_cons pe_int pa_nil))) (pa_cons (pe_tup (pa_cons (pe_tup (pa_cons (pe_tup (pa_cons (pe_op op_add_str (pv 1) pe_str) (pa_cons pe_int (pa_cons pe_int pa_nil)))) pa_nil)) (pa_cons pe_int pa_nil))) (pa_cons (pe_tup (pa_cons (pe_tup (pa_cons (pv 2) (pa_cons (pe_tup (pa_cons pe_non (pa_cons pe_int (pa_cons pe_int pa_nil)))) pa_nil))) (pa_cons pe_int pa_nil))) pa_nil))))))
      (pss_cons (ps_set (i := 3) sc__law_wrong.nd rfl (.inl rfl) (pe_op op_cat (pv 3) (pe_lst (pa_cons (pe_tup (pa_cons (pe_tup (pa_cons (pe_tup (pa_cons (pv 1) (pa_cons pe_int (pa_cons pe_int pa_nil)))) (pa_cons (pv 2) pa_nil))) (pa_cons pe_int pa_nil))) (pa_cons (pe_tup (pa_cons (pe_tup (pa_cons (pv 2) (pa_cons (pe_tup (pa_cons (pv 0) (pa_cons pe_int (pa_cons pe_int pa_nil)))) pa_nil))) (pa_cons pe_int pa_nil))) pa_nil)))))
      (pss_one (ps_ret (pe_op op_cat (pv 3) (pe_lst (pa_cons (pe_tup (pa_cons (pe_callTy call_tuple_of (by rfl) B.ztuple (by decide +kernel) (pa_cons (pe_lc (own := [("_law_k", 4)]) rfl sc__law_wrong.nd (pi_range2 (by rfl) B.zrange (pa_cons pe_int (pa_cons pe_int pa_nil))) (blkOk_by (N := ["_law_a", "_law_b", "_law_good", "_law_found", "_law_k"]) (sc := defScope s__law_wrong) (own := [("_law_k", 4)]) (by decide +kernel)) (fun _ _ _ _ _ => (pg_name (i := 4) sc__law_wrong.nd rfl (.inl rfl) (.inr rfl))) (fun _ _ _ _ _ => pts_nil) (fun _ _ _ _ _ => (pe_tup (pa_cons (pv 0) (pa_cons (pv 4) (pa_cons pe_int pa_nil)))))) pa_nil)) (pa_cons pe_int pa_nil))) pa_nil))))))))))), ?_⟩
  have s : Same H H := fun _ _ z => z
  refine ⟨_, rfl, by show 3 ≤ sizeLine; decide, fun p1 h1 => ?_⟩
  have t1 := same_new (o := .tup [V.str a, .int 2, .int 1]) h1
  have D1 : Dp K (upd H p1 (.tup [V.str a, .int 2, .int 1])) (.ref p1) (rowW (.str a) (.int 2) (.int 1)) := .tup (SqT.of upd_same) (.cons (.str _) (.cons (.int _) (.cons (.int _) .nil)))
  replace s := s.trans t1
  clear t1
  revert D1 s
  generalize upd H p1 (.tup [V.str a, .int 2, .int 1]) = H1
  intro D1 s
  clear h1
  have g := D1
  clear D1
  generalize eG : rowW (.str a) (.int 2) (.int 1) = G at g
  have A : DpAll K H1 [] [] := .nil
  refine ⟨by show 2 ≤ sizeLine; decide, fun p2 h2 => ?_⟩
  have t2 := same_new (o := .tup [V.non, .non]) h2
  have D2 : Dp K (upd H1 p2 (.tup [V.non, .non])) (.ref p2) (wrongD (.none, none)) := .tup (SqT.of upd_same) (.cons .non (.cons .non .nil))
  replace s := s.trans t2
  replace g := g.mono t2
  replace A := A.mono t2
  clear t2
  revert D2 s g A
  generalize upd H1 p2 (.tup [V.non, .non]) = H2
  intro D2 s g A
  clear h2
  replace A : DpAll K H2 [V.ref p2] [wrongD (.none, none)] := A.snoc D2
  clear D2
  refine ⟨_, rfl, by show 1 ≤ sizeLine; decide, fun p3 h3 => ?_⟩
  have t3 := same_new (o := .lst [V.ref p1]) h3
  have D3 : Dp K (upd H2 p3 (.lst [V.ref p1])) (.ref p3) (.list [G]) := .lst (SqL.of upd_same) (.cons (g.mono t3) .nil)
  replace s := s.trans t3
  replace g := g.mono t3
  replace A := A.mono t3
  have el3 : (upd H2 p3 (.lst [V.ref p1])) p3 = some (.lst [V.ref p1]) := upd_same
  clear t3
  revert D3 s g A el3
  generalize upd H2 p3 (.lst [V.ref p1]) = H3
  intro D3 s g A el3
  clear h3
  refine ⟨by show 2 ≤ sizeLine; decide, fun p4 h4 => ?_⟩
  have t4 := same_new (o := .tup [V.ref p3, .non]) h4
  have D4 : Dp K (upd H3 p4 (.tup [V.ref p3, .non])) (.ref p4) (wrongD (.list [G], none)) := .tup (SqT.of upd_same) (.cons (D3.mono t4) (.cons .non .nil))
  replace s := s.trans t4
  replace D3 := D3.mono t4
  replace g := g.mono t4
  replace A := A.mono t4
  clear t4
  revert D4 s D3 g A
  generalize upd H3 p4 (.tup [V.ref p3, .non]) = H4
  intro D4 s D3 g A
  clear h4
  clear D3
  replace A : DpAll K H4 [V.ref p2, .ref p4] [wrongD (.none, none), wrongD (.list [G], none)] := A.snoc D4
  clear D4
  refine ⟨by show 2 ≤ sizeLine; decide, fun p5 h5 => ?_⟩
  have t5 := same_new (o := .tup [V.str "a", .non]) h5
  have D5 : Dp K (upd H4 p5 (.tup [V.str "a", .non])) (.ref p5) (wrongD (.str "a", none)) := .tup (SqT.of upd_same) (.cons (.str _) (.cons .non .nil))
  replace s := s.trans t5
  replace g := g.mono t5
  replace A := A.mono t5
  clear t5
  revert D5 s g A
  generalize upd H4 p5 (.tup [V.str "a", .non]) = H5
  intro D5 s g A
  clear h5
  replace A : DpAll K H5 [V.ref p2, .ref p4, .ref p5] [wrongD (.none, none), wrongD (.list [G], none), wrongD (.str "a", none)] := A.snoc D5
  clear D5
  refine ⟨by show 2 ≤ sizeLine; decide, fun p6 h6 => ?_⟩
  have t6 := same_new (o := .tup [V.int 0, .non]) h6
  have D6 : Dp K (upd H5 p6 (.tup [V.int 0, .non])) (.ref p6) (wrongD (.int 0, none)) := .tup (SqT.of upd_same) (.cons (.int _) (.cons .non .nil))
  replace s := s.trans t6
  replace g := g.mono t6
  replace A := A.mono t6
  clear t6
  revert D6 s g A
  generalize upd H5 p6 (.tup [V.int 0, .non]) = H6
  intro D6 s g A
  clear h6
  replace A : DpAll K H6 [V.ref p2, .ref p4, .ref p5, .ref p6] [wrongD (.none, none), wrongD (.list [G], none), wrongD (.str "a", none), wrongD (.int 0, none)] := A.snoc D6
  clear D6
  refine ⟨_, rfl, _, rfl, by show 2 ≤ sizeLine; decide, fun p7 h7 => ?_⟩
  have t7 := same_new (o := .tup [V.ref p1, .ref p1]) h7
  have D7 : Dp K (upd H6 p7 (.tup [V.ref p1, .ref p1])) (.ref p7) (.tuple [G, G]) := .tup (SqT.of upd_same) (.cons (g.mono t7) (.cons (g.mono t7) .nil))
  replace s := s.trans t7
  replace g := g.mono t7
  replace A := A.mono t7
  clear t7
  revert D7 s g A
  generalize upd H6 p7 (.tup [V.ref p1, .ref p1]) = H7
  intro D7 s g A
  clear h7
  refine ⟨by show 2 ≤ sizeLine; decide, fun p8 h8 => ?_⟩
  have t8 := same_new (o := .tup [V.ref p7, .int 1]) h8
  have D8 : Dp K (upd H7 p8 (.tup [V.ref p7, .int 1])) (.ref p8) (wrongD (.tuple [G, G], some 1)) := .tup (SqT.of upd_same) (.cons (D7.mono t8) (.cons (.int _) .nil))
  replace s := s.trans t8
  replace D7 := D7.mono t8
  replace g := g.mono t8
  replace A := A.mono t8
  clear t8
  revert D8 s D7 g A
  generalize upd H7 p8 (.tup [V.ref p7, .int 1]) = H8
  intro D8 s D7 g A
  clear h8
  clear D7
  replace A : DpAll K H8 [V.ref p2, .ref p4, .ref p5, .ref p6, .ref p8] [wrongD (.none, none), wrongD (.list [G], none), wrongD (.str "a", none), wrongD (.int 0, none), wrongD (.tuple [G, G], some 1)] := A.snoc D8
  clear D8
  refine ⟨_, rfl, _, rfl, by show 3 ≤ sizeLine; decide, fun p9 h9 => ?_⟩
  have t9 := same_new (o := .tup [V.str a, .int 1, .int 1]) h9
  have D9 : Dp K (upd H8 p9 (.tup [V.str a, .int 1, .int 1])) (.ref p9) (.tuple [.str a, .int 1, .int 1]) := .tup (SqT.of upd_same) (.cons (.str _) (.cons (.int _) (.cons (.int _) .nil)))
  replace s := s.trans t9
  replace g := g.mono t9
  replace A := A.mono t9
  clear t9
  revert D9 s g A
  generalize upd H8 p9 (.tup [V.str a, .int 1, .int 1]) = H9
  intro D9 s g A
  clear h9
  refine ⟨by show 2 ≤ sizeLine; decide, fun p10 h10 => ?_⟩
  have t10 := same_new (o := .tup [V.ref p1, .ref p9]) h10
  have D10 : Dp K (upd H9 p10 (.tup [V.ref p1, .ref p9])) (.ref p10) (.tuple [G, .tuple [.str a, .int 1, .int 1]]) := .tup (SqT.of upd_same) (.cons (g.mono t10) (.cons (D9.mono t10) .nil))
  replace s := s.trans t10
  replace D9 := D9.mono t10
  replace g := g.mono t10
  replace A := A.mono t10
  clear t10
  revert D10 s D9 g A
  generalize upd H9 p10 (.tup [V.ref p1, .ref p9]) = H10
  intro D10 s D9 g A
  clear h10
  refine ⟨by show 2 ≤ sizeLine; decide, fun p11 h11 => ?_⟩
  have t11 := same_new (o := .tup [V.ref p10, .int 1]) h11
  have D11 : Dp K (upd H10 p11 (.tup [V.ref p10, .int 1])) (.ref p11) (wrongD (.tuple [G, .tuple [.str a, .int 1, .int 1]], some 1)) := .tup (SqT.of upd_same) (.cons (D10.mono t11) (.cons (.int _) .nil))
  replace s := s.trans t11
  replace D10 := D10.mono t11
  replace g := g.mono t11
  replace A := A.mono t11
  clear t11
  revert D11 s D10 g A
  generalize upd H10 p11 (.tup [V.ref p10, .int 1]) = H11
  intro D11 s D10 g A
  clear h11
  clear D10
  replace A : DpAll K H11 [V.ref p2, .ref p4, .ref p5, .ref p6, .ref p8, .ref p11] [wrongD (.none, none), wrongD (.list [G], none), wrongD (.str "a", none), wrongD (.int 0, none), wrongD (.tuple [G, G], some 1), wrongD (.tuple [G, .tuple [.str a, .int 1, .int 1]], some 1)] := A.snoc D11
  clear D11
  refine ⟨by show 6 ≤ sizeLine; decide, fun p12 h12 => ?_⟩
  have t12 := same_new (o := .lst [V.ref p2, .ref p4, .ref p5, .ref p6, .ref p8, .ref p11]) h12
  replace s := s.trans t12
  replace g := g.mono t12
  replace A := A.mono t12
  have el : (upd H11 p12 (.lst [V.ref p2, .ref p4, .ref p5, .ref p6, .ref p8, .ref p11])) p12 = some (.lst [V.ref p2, .ref p4, .ref p5, .ref p6, .ref p8, .ref p11]) := upd_same
  clear t12
  revert s g A el
  generalize upd H11 p12 (.lst [V.ref p2, .ref p4, .ref p5, .ref p6, .ref p8, .ref p11]) = H12
  intro s g A el
  clear h12
  have ef := el
  clear el
  have Af := A
  clear A
  dsimp only [List.set]
  generalize ([V.ref p2, .ref p4, .ref p5, .ref p6, .ref p8, .ref p11] : List V) = W at ef Af
  have A : DpAll K H12 [] [] := .nil
  refine ⟨_, rfl, by show 1 ≤ sizeLine; decide, fun p13 h13 => ?_⟩
  have t13 := same_new (o := .tup [V.non]) h13
  have D13 : Dp K (upd H12 p13 (.tup [V.non])) (.ref p13) (.tuple [.none]) := .tup (SqT.of upd_same) (.cons .non .nil)
  replace s := s.trans t13
  replace g := g.mono t13
  replace A := A.mono t13
  replace Af := Af.mono t13
  replace ef := t13 _ _ ef
  clear t13
  revert D13 s g A Af ef
  generalize upd H12 p13 (.tup [V.non]) = H13
  intro D13 s g A Af ef
  clear h13
  refine ⟨by show 2 ≤ sizeLine; decide, fun p14 h14 => ?_⟩
  have t14 := same_new (o := .tup [V.ref p13, .int 0]) h14
  have D14 : Dp K (upd H13 p14 (.tup [V.ref p13, .int 0])) (.ref p14) (wrongD (.tuple [.none], some 0)) := .tup (SqT.of upd_same) (.cons (D13.mono t14) (.cons (.int _) .nil))
  replace s := s.trans t14
  replace D13 := D13.mono t14
  replace g := g.mono t14
  replace A := A.mono t14
  replace Af := Af.mono t14
  replace ef := t14 _ _ ef
  clear t14
  revert D14 s D13 g A Af ef
  generalize upd H13 p14 (.tup [V.ref p13, .int 0]) = H14
  intro D14 s D13 g A Af ef
  clear h14
  clear D13
  replace A : DpAll K H14 [V.ref p14] [wrongD (.tuple [.none], some 0)] := A.snoc D14
  clear D14
  refine ⟨_, rfl, by show 2 ≤ sizeLine; decide, fun p15 h15 => ?_⟩
  have t15 := same_new (o := .tup [V.str a, .int 2]) h15
  have D15 : Dp K (upd H14 p15 (.tup [V.str a, .int 2])) (.ref p15) (.tuple [.str a, .int 2]) := .tup (SqT.of upd_same) (.cons (.str _) (.cons (.int _) .nil))
  replace s := s.trans t15
  replace g := g.mono t15
  replace A := A.mono t15
  replace Af := Af.mono t15
  replace ef := t15 _ _ ef
  clear t15
  revert D15 s g A Af ef
  generalize upd H14 p15 (.tup [V.str a, .int 2]) = H15
  intro D15 s g A Af ef
  clear h15
  refine ⟨by show 1 ≤ sizeLine; decide, fun p16 h16 => ?_⟩
  have t16 := same_new (o := .tup [V.ref p15]) h16
  have D16 : Dp K (upd H15 p16 (.tup [V.ref p15])) (.ref p16) (.tuple [.tuple [.str a, .int 2]]) := .tup (SqT.of upd_same) (.cons (D15.mono t16) .nil)
  replace s := s.trans t16
  replace D15 := D15.mono t16
  replace g := g.mono t16
  replace A := A.mono t16
  replace Af := Af.mono t16
  replace ef := t16 _ _ ef
  clear t16
  revert D16 s D15 g A Af ef
  generalize upd H15 p16 (.tup [V.ref p15]) = H16
  intro D16 s D15 g A Af ef
  clear h16
  refine ⟨by show 2 ≤ sizeLine; decide, fun p17 h17 => ?_⟩
  have t17 := same_new (o := .tup [V.ref p16, .int 0]) h17
  have D17 : Dp K (upd H16 p17 (.tup [V.ref p16, .int 0])) (.ref p17) (wrongD (.tuple [.tuple [.str a, .int 2]], some 0)) := .tup (SqT.of upd_same) (.cons (D16.mono t17) (.cons (.int _) .nil))
  replace s := s.trans t17
  replace D16 := D16.mono t17
  replace g := g.mono t17
  replace A := A.mono t17
  replace Af := Af.mono t17
  replace ef := t17 _ _ ef
  clear t17
  revert D17 s D16 g A Af ef
  generalize upd H16 p17 (.tup [V.ref p16, .int 0]) = H17
  intro D17 s D16 g A Af ef
  clear h17
  clear D16
  replace A : DpAll K H17 [V.ref p14, .ref p17] [wrongD (.tuple [.none], some 0), wrongD (.tuple [.tuple [.str a, .int 2]], some 0)] := A.snoc D17
  clear D17
  refine ⟨_, rfl, by show 3 ≤ sizeLine; decide, fun p18 h18 => ?_⟩
  have t18 := same_new (o := .tup [V.str a, .int 0, .int 1]) h18
  have D18 : Dp K (upd H17 p18 (.tup [V.str a, .int 0, .int 1])) (.ref p18) (.tuple [.str a, .int 0, .int 1]) := .tup (SqT.of upd_same) (.cons (.str _) (.cons (.int _) (.cons (.int _) .nil)))
  replace s := s.trans t18
  replace g := g.mono t18
  replace A := A.mono t18
  replace Af := Af.mono t18
  replace ef := t18 _ _ ef
  clear t18
  revert D18 s g A Af ef
  generalize upd H17 p18 (.tup [V.str a, .int 0, .int 1]) = H18
  intro D18 s g A Af ef
  clear h18
  refine ⟨by show 1 ≤ sizeLine; decide, fun p19 h19 => ?_⟩
  have t19 := same_new (o := .tup [V.ref p18]) h19
  have D19 : Dp K (upd H18 p19 (.tup [V.ref p18])) (.ref p19) (.tuple [.tuple [.str a, .int 0, .int 1]]) := .tup (SqT.of upd_same) (.cons (D18.mono t19) .nil)
  replace s := s.trans t19
  replace D18 := D18.mono t19
  replace g := g.mono t19
  replace A := A.mono t19
  replace Af := Af.mono t19
  replace ef := t19 _ _ ef
  clear t19
  revert D19 s D18 g A Af ef
  generalize upd H18 p19 (.tup [V.ref p18]) = H19
  intro D19 s D18 g A Af ef
  clear h19
  refine ⟨by show 2 ≤ sizeLine; decide, fun p20 h20 => ?_⟩
  have t20 := same_new (o := .tup [V.ref p19, .int 0]) h20
  have D20 : Dp K (upd H19 p20 (.tup [V.ref p19, .int 0])) (.ref p20) (wrongD (.tuple [.tuple [.str a, .int 0, .int 1]], some 0)) := .tup (SqT.of upd_same) (.cons (D19.mono t20) (.cons (.int _) .nil))
  replace s := s.trans t20
  replace D19 := D19.mono t20
  replace g := g.mono t20
  replace A := A.mono t20
  replace Af := Af.mono t20
  replace ef := t20 _ _ ef
  clear t20
  revert D20 s D19 g A Af ef
  generalize upd H19 p20 (.tup [V.ref p19, .int 0]) = H20
  intro D20 s D19 g A Af ef
  clear h20
  clear D19
  replace A : DpAll K H20 [V.ref p14, .ref p17, .ref p20] [wrongD (.tuple [.none], some 0), wrongD (.tuple [.tuple [.str a, .int 2]], some 0), wrongD (.tuple [.tuple [.str a, .int 0, .int 1]], some 0)] := A.snoc D20
  clear D20
  refine ⟨_, rfl, by show 3 ≤ sizeLine; decide, fun p21 h21 => ?_⟩
  have t21 := same_new (o := .tup [V.str a, .int 2, .int 0]) h21
  have D21 : Dp K (upd H20 p21 (.tup [V.str a, .int 2, .int 0])) (.ref p21) (.tuple [.str a, .int 2, .int 0]) := .tup (SqT.of upd_same) (.cons (.str _) (.cons (.int _) (.cons (.int _) .nil)))
  replace s := s.trans t21
  replace g := g.mono t21
  replace A := A.mono t21
  replace Af := Af.mono t21
  replace ef := t21 _ _ ef
  clear t21
  revert D21 s g A Af ef
  generalize upd H20 p21 (.tup [V.str a, .int 2, .int 0]) = H21
  intro D21 s g A Af ef
  clear h21
  refine ⟨by show 1 ≤ sizeLine; decide, fun p22 h22 => ?_⟩
  have t22 := same_new (o := .tup [V.ref p21]) h22
  have D22 : Dp K (upd H21 p22 (.tup [V.ref p21])) (.ref p22) (.tuple [.tuple [.str a, .int 2, .int 0]]) := .tup (SqT.of upd_same) (.cons (D21.mono t22) .nil)
  replace s := s.trans t22
  replace D21 := D21.mono t22
  replace g := g.mono t22
  replace A := A.mono t22
  replace Af := Af.mono t22
  replace ef := t22 _ _ ef
  clear t22
  revert D22 s D21 g A Af ef
  generalize upd H21 p22 (.tup [V.ref p21]) = H22
  intro D22 s D21 g A Af ef
  clear h22
  refine ⟨by show 2 ≤ sizeLine; decide, fun p23 h23 => ?_⟩
  have t23 := same_new (o := .tup [V.ref p22, .int 0]) h23
  have D23 : Dp K (upd H22 p23 (.tup [V.ref p22, .int 0])) (.ref p23) (wrongD (.tuple [.tuple [.str a, .int 2, .int 0]], some 0)) := .tup (SqT.of upd_same) (.cons (D22.mono t23) (.cons (.int _) .nil))
  replace s := s.trans t23
  replace D22 := D22.mono t23
  replace g := g.mono t23
  replace A := A.mono t23
  replace Af := Af.mono t23
  replace ef := t23 _ _ ef
  clear t23
  revert D23 s D22 g A Af ef
  generalize upd H22 p23 (.tup [V.ref p22, .int 0]) = H23
  intro D23 s D22 g A Af ef
  clear h23
  clear D22
  replace A : DpAll K H23 [V.ref p14, .ref p17, .ref p20, .ref p23] [wrongD (.tuple [.none], some 0), wrongD (.tuple [.tuple [.str a, .int 2]], some 0), wrongD (.tuple [.tuple [.str a, .int 0, .int 1]], some 0), wrongD (.tuple [.tuple [.str a, .int 2, .int 0]], some 0)] := A.snoc D23
  clear D23
  refine ⟨_, rfl, by show 3 ≤ sizeLine; decide, fun p24 h24 => ?_⟩
  have t24 := same_new (o := .tup [V.str a, .bl true, .int 1]) h24
  have D24 : Dp K (upd H23 p24 (.tup [V.str a, .bl true, .int 1])) (.ref p24) (.tuple [.str a, .bool true, .int 1]) := .tup (SqT.of upd_same) (.cons (.str _) (.cons (.bl _) (.cons (.int _) .nil)))
  replace s := s.trans t24
  replace g := g.mono t24
  replace A := A.mono t24
  replace Af := Af.mono t24
  replace ef := t24 _ _ ef
  clear t24
  revert D24 s g A Af ef
  generalize upd H23 p24 (.tup [V.str a, .bl true, .int 1]) = H24
  intro D24 s g A Af ef
  clear h24
  refine ⟨by show 1 ≤ sizeLine; decide, fun p25 h25 => ?_⟩
  have t25 := same_new (o := .tup [V.ref p24]) h25
  have D25 : Dp K (upd H24 p25 (.tup [V.ref p24])) (.ref p25) (.tuple [.tuple [.str a, .bool true, .int 1]]) := .tup (SqT.of upd_same) (.cons (D24.mono t25) .nil)
  replace s := s.trans t25
  replace D24 := D24.mono t25
  replace g := g.mono t25
  replace A := A.mono t25
  replace Af := Af.mono t25
  replace ef := t25 _ _ ef
  clear t25
  revert D25 s D24 g A Af ef
  generalize upd H24 p25 (.tup [V.ref p24]) = H25
  intro D25 s D24 g A Af ef
  clear h25
  refine ⟨by show 2 ≤ sizeLine; decide, fun p26 h26 => ?_⟩
  have t26 := same_new (o := .tup [V.ref p25, .int 0]) h26
  have D26 : Dp K (upd H25 p26 (.tup [V.ref p25, .int 0])) (.ref p26) (wrongD (.tuple [.tuple [.str a, .bool true, .int 1]], some 0)) := .tup (SqT.of upd_same) (.cons (D25.mono t26) (.cons (.int _) .nil))
  replace s := s.trans t26
  replace D25 := D25.mono t26
  replace g := g.mono t26
  replace A := A.mono t26
  replace Af := Af.mono t26
  replace ef := t26 _ _ ef
  clear t26
  revert D26 s D25 g A Af ef
  generalize upd H25 p26 (.tup [V.ref p25, .int 0]) = H26
  intro D26 s D25 g A Af ef
  clear h26
  clear D25
  replace A : DpAll K H26 [V.ref p14, .ref p17, .ref p20, .ref p23, .ref p26] [wrongD (.tuple [.none], some 0), wrongD (.tuple [.tuple [.str a, .int 2]], some 0), wrongD (.tuple [.tuple [.str a, .int 0, .int 1]], some 0), wrongD (.tuple [.tuple [.str a, .int 2, .int 0]], some 0), wrongD (.tuple [.tuple [.str a, .bool true, .int 1]], some 0)] := A.snoc D26
  clear D26
  refine ⟨by show 5 ≤ sizeLine; decide, fun p27 h27 => ?_⟩
  have t27 := same_new (o := .lst [V.ref p14, .ref p17, .ref p20, .ref p23, .ref p26]) h27
  replace s := s.trans t27
  replace g := g.mono t27
  replace A := A.mono t27
  replace Af := Af.mono t27
  replace ef := t27 _ _ ef
  have el : (upd H26 p27 (.lst [V.ref p14, .ref p17, .ref p20, .ref p23, .ref p26])) p27 = some (.lst [V.ref p14, .ref p17, .ref p20, .ref p23, .ref p26]) := upd_same
  clear t27
  revert s g A Af ef el
  generalize upd H26 p27 (.lst [V.ref p14, .ref p17, .ref p20, .ref p23, .ref p26]) = H27
  intro s g A Af ef el
  clear h27
  generalize ([V.ref p14, .ref p17, .ref p20, .ref p23, .ref p26] : List V) = Z at el A
  have lf := Af.length
  have la := A.length
  refine ⟨p12, p27, W, Z, rfl, rfl, ef, el, (by rw [lf, la]; exact Nat.le_of_lt (small1000 (by simp))), fun p28 h28 => ?_⟩
  clear lf la
  have t28 := same_new (o := .lst (W ++ Z)) h28
  replace s := s.trans t28
  replace g := g.mono t28
  replace Af := (Af.append A).mono t28
  clear A el ef
  have ef : (upd H27 p28 (.lst (W ++ Z))) p28 = some (.lst (W ++ Z)) := upd_same
  clear t28
  revert s g Af ef
  generalize upd H27 p28 (.lst (W ++ Z)) = H28
  intro s g Af ef
  clear h28
  generalize W ++ Z = W at ef Af
  dsimp only [List.set]
  have A : DpAll K H28 [] [] := .nil
  refine ⟨_, rfl, _, rfl, _, _, rfl, rfl, ⟨by decide, by decide, by decide⟩, _, _, rfl, rfl, by show 3 ≤ sizeLine; decide, fun p29 h29 => ?_⟩
  have t29 := same_new (o := .tup [V.str a, .int ((10 : Int) ^ (6 : Int).toNat + 1), .int 1]) h29
  have D29 : Dp K (upd H28 p29 (.tup [V.str a, .int ((10 : Int) ^ (6 : Int).toNat + 1), .int 1])) (.ref p29) (.tuple [.str a, .int 1000001, .int 1]) := .tup (SqT.of upd_same) (.cons (.str _) (.cons dp_pow6 (.cons (.int _) .nil)))
  replace s := s.trans t29
  replace g := g.mono t29
  replace A := A.mono t29
  replace Af := Af.mono t29
  replace ef := t29 _ _ ef
  clear t29
  revert D29 s g A Af ef
  generalize upd H28 p29 (.tup [V.str a, .int ((10 : Int) ^ (6 : Int).toNat + 1), .int 1]) = H29
  intro D29 s g A Af ef
  clear h29
  refine ⟨by show 1 ≤ sizeLine; decide, fun p30 h30 => ?_⟩
  have t30 := same_new (o := .tup [V.ref p29]) h30
  have D30 : Dp K (upd H29 p30 (.tup [V.ref p29])) (.ref p30) (.tuple [.tuple [.str a, .int 1000001, .int 1]]) := .tup (SqT.of upd_same) (.cons (D29.mono t30) .nil)
  replace s := s.trans t30
  replace D29 := D29.mono t30
  replace g := g.mono t30
  replace A := A.mono t30
  replace Af := Af.mono t30
  replace ef := t30 _ _ ef
  clear t30
  revert D30 s D29 g A Af ef
  generalize upd H29 p30 (.tup [V.ref p29]) = H30
  intro D30 s D29 g A Af ef
  clear h30
  refine ⟨by show 2 ≤ sizeLine; decide, fun p31 h31 => ?_⟩
  have t31 := same_new (o := .tup [V.ref p30, .int 0]) h31
  have D31 : Dp K (upd H30 p31 (.tup [V.ref p30, .int 0])) (.ref p31) (wrongD (.tuple [.tuple [.str a, .int 1000001, .int 1]], some 0)) := .tup (SqT.of upd_same) (.cons (D30.mono t31) (.cons (.int _) .nil))
  replace s := s.trans t31
  replace D30 := D30.mono t31
  replace g := g.mono t31
  replace A := A.mono t31
  replace Af := Af.mono t31
  replace ef := t31 _ _ ef
  clear t31
  revert D31 s D30 g A Af ef
  generalize upd H30 p31 (.tup [V.ref p30, .int 0]) = H31
  intro D31 s D30 g A Af ef
  clear h31
  clear D30
  replace A : DpAll K H31 [V.ref p31] [wrongD (.tuple [.tuple [.str a, .int 1000001, .int 1]], some 0)] := A.snoc D31
  clear D31
  refine ⟨_, rfl, _, _, rfl, rfl, ⟨by decide, by decide, by decide⟩, _, _, rfl, rfl, by show 3 ≤ sizeLine; decide, fun p32 h32 => ?_⟩
  have t32 := same_new (o := .tup [V.str a, .int 1, .int ((10 : Int) ^ (6 : Int).toNat + 1)]) h32
  have D32 : Dp K (upd H31 p32 (.tup [V.str a, .int 1, .int ((10 : Int) ^ (6 : Int).toNat + 1)])) (.ref p32) (.tuple [.str a, .int 1, .int 1000001]) := .tup (SqT.of upd_same) (.cons (.str _) (.cons (.int _) (.cons dp_pow6 .nil)))
  replace s := s.trans t32
  replace g := g.mono t32
  replace A := A.mono t32
  replace Af := Af.mono t32
  replace ef := t32 _ _ ef
  clear t32
  revert D32 s g A Af ef
  generalize upd H31 p32 (.tup [V.str a, .int 1, .int ((10 : Int) ^ (6 : Int).toNat + 1)]) = H32
  intro D32 s g A Af ef
  clear h32
  refine ⟨by show 1 ≤ sizeLine; decide, fun p33 h33 => ?_⟩
  have t33 := same_new (o := .tup [V.ref p32]) h33
  have D33 : Dp K (upd H32 p33 (.tup [V.ref p32])) (.ref p33) (.tuple [.tuple [.str a, .int 1, .int 1000001]]) := .tup (SqT.of upd_same) (.cons (D32.mono t33) .nil)
  replace s := s.trans t33
  replace D32 := D32.mono t33
  replace g := g.mono t33
  replace A := A.mono t33
  replace Af := Af.mono t33
  replace ef := t33 _ _ ef
  clear t33
  revert D33 s D32 g A Af ef
  generalize upd H32 p33 (.tup [V.ref p32]) = H33
  intro D33 s D32 g A Af ef
  clear h33
  refine ⟨by show 2 ≤ sizeLine; decide, fun p34 h34 => ?_⟩
  have t34 := same_new (o := .tup [V.ref p33, .int 0]) h34
  have D34 : Dp K (upd H33 p34 (.tup [V.ref p33, .int 0])) (.ref p34) (wrongD (.tuple [.tuple [.str a, .int 1, .int 1000001]], some 0)) := .tup (SqT.of upd_same) (.cons (D33.mono t34) (.cons (.int _) .nil))
  replace s := s.trans t34
  replace D33 := D33.mono t34
  replace g := g.mono t34
  replace A := A.mono t34
  replace Af := Af.mono t34
  replace ef := t34 _ _ ef
  clear t34
  revert D34 s D33 g A Af ef
  generalize upd H33 p34 (.tup [V.ref p33, .int 0]) = H34
  intro D34 s D33 g A Af ef
  clear h34
  clear D33
  replace A : DpAll K H34 [V.ref p31, .ref p34] [wrongD (.tuple [.tuple [.str a, .int 1000001, .int 1]], some 0), wrongD (.tuple [.tuple [.str a, .int 1, .int 1000001]], some 0)] := A.snoc D34
  clear D34
  refine ⟨_, rfl, by show 3 ≤ sizeLine; decide, fun p35 h35 => ?_⟩
  have t35 := same_new (o := .tup [V.str a, .int 1, .str "1"]) h35
  have D35 : Dp K (upd H34 p35 (.tup [V.str a, .int 1, .str "1"])) (.ref p35) (.tuple [.str a, .int 1, .str "1"]) := .tup (SqT.of upd_same) (.cons (.str _) (.cons (.int _) (.cons (.str _) .nil)))
  replace s := s.trans t35
  replace g := g.mono t35
  replace A := A.mono t35
  replace Af := Af.mono t35
  replace ef := t35 _ _ ef
  clear t35
  revert D35 s g A Af ef
  generalize upd H34 p35 (.tup [V.str a, .int 1, .str "1"]) = H35
  intro D35 s g A Af ef
  clear h35
  refine ⟨by show 1 ≤ sizeLine; decide, fun p36 h36 => ?_⟩
  have t36 := same_new (o := .tup [V.ref p35]) h36
  have D36 : Dp K (upd H35 p36 (.tup [V.ref p35])) (.ref p36) (.tuple [.tuple [.str a, .int 1, .str "1"]]) := .tup (SqT.of upd_same) (.cons (D35.mono t36) .nil)
  replace s := s.trans t36
  replace D35 := D35.mono t36
  replace g := g.mono t36
  replace A := A.mono t36
  replace Af := Af.mono t36
  replace ef := t36 _ _ ef
  clear t36
  revert D36 s D35 g A Af ef
  generalize upd H35 p36 (.tup [V.ref p35]) = H36
  intro D36 s D35 g A Af ef
  clear h36
  refine ⟨by show 2 ≤ sizeLine; decide, fun p37 h37 => ?_⟩
  have t37 := same_new (o := .tup [V.ref p36, .int 0]) h37
  have D37 : Dp K (upd H36 p37 (.tup [V.ref p36, .int 0])) (.ref p37) (wrongD (.tuple [.tuple [.str a, .int 1, .str "1"]], some 0)) := .tup (SqT.of upd_same) (.cons (D36.mono t37) (.cons (.int _) .nil))
  replace s := s.trans t37
  replace D36 := D36.mono t37
  replace g := g.mono t37
  replace A := A.mono t37
  replace Af := Af.mono t37
  replace ef := t37 _ _ ef
  clear t37
  revert D37 s D36 g A Af ef
  generalize upd H36 p37 (.tup [V.ref p36, .int 0]) = H37
  intro D37 s D36 g A Af ef
  clear h37
  clear D36
  replace A : DpAll K H37 [V.ref p31, .ref p34, .ref p37] [wrongD (.tuple [.tuple [.str a, .int 1000001, .int 1]], some 0), wrongD (.tuple [.tuple [.str a, .int 1, .int 1000001]], some 0), wrongD (.tuple [.tuple [.str a, .int 1, .str "1"]], some 0)] := A.snoc D37
  clear D37
  refine ⟨by show 3 ≤ sizeLine; decide, fun p38 h38 => ?_⟩
  have t38 := same_new (o := .lst [V.ref p31, .ref p34, .ref p37]) h38
  replace s := s.trans t38
  replace g := g.mono t38
  replace A := A.mono t38
  replace Af := Af.mono t38
  replace ef := t38 _ _ ef
  have el : (upd H37 p38 (.lst [V.ref p31, .ref p34, .ref p37])) p38 = some (.lst [V.ref p31, .ref p34, .ref p37]) := upd_same
  clear t38
  revert s g A Af ef el
  generalize upd H37 p38 (.lst [V.ref p31, .ref p34, .ref p37]) = H38
  intro s g A Af ef el
  clear h38
  generalize ([V.ref p31, .ref p34, .ref p37] : List V) = Z at el A
  have lf := Af.length
  have la := A.length
  refine ⟨p28, p38, W, Z, rfl, rfl, ef, el, (by rw [lf, la]; exact Nat.le_of_lt (small1000 (by simp))), fun p39 h39 => ?_⟩
  clear lf la
  have t39 := same_new (o := .lst (W ++ Z)) h39
  replace s := s.trans t39
  replace g := g.mono t39
  replace Af := (Af.append A).mono t39
  clear A el ef
  have ef : (upd H38 p39 (.lst (W ++ Z))) p39 = some (.lst (W ++ Z)) := upd_same
  clear t39
  revert s g Af ef
  generalize upd H38 p39 (.lst (W ++ Z)) = H39
  intro s g Af ef
  clear h39
  generalize W ++ Z = W at ef Af
  dsimp only [List.set]
  have A : DpAll K H39 [] [] := .nil
  refine ⟨_, rfl, _, rfl, by show 3 ≤ sizeLine; decide, fun p40 h40 => ?_⟩
  have t40 := same_new (o := .lst [V.str a, .int 1, .int 1]) h40
  have D40 : Dp K (upd H39 p40 (.lst [V.str a, .int 1, .int 1])) (.ref p40) (.list [.str a, .int 1, .int 1]) := .lst (SqL.of upd_same) (.cons (.str _) (.cons (.int _) (.cons (.int _) .nil)))
  replace s := s.trans t40
  replace g := g.mono t40
  replace A := A.mono t40
  replace Af := Af.mono t40
  replace ef := t40 _ _ ef
  have el40 : (upd H39 p40 (.lst [V.str a, .int 1, .int 1])) p40 = some (.lst [V.str a, .int 1, .int 1]) := upd_same
  clear t40
  revert D40 s g A Af ef el40
  generalize upd H39 p40 (.lst [V.str a, .int 1, .int 1]) = H40
  intro D40 s g A Af ef el40
  clear h40
  refine ⟨by show 1 ≤ sizeLine; decide, fun p41 h41 => ?_⟩
  have t41 := same_new (o := .tup [V.ref p40]) h41
  have D41 : Dp K (upd H40 p41 (.tup [V.ref p40])) (.ref p41) (.tuple [.list [.str a, .int 1, .int 1]]) := .tup (SqT.of upd_same) (.cons (D40.mono t41) .nil)
  replace s := s.trans t41
  replace D40 := D40.mono t41
  replace g := g.mono t41
  replace A := A.mono t41
  replace Af := Af.mono t41
  replace ef := t41 _ _ ef
  clear t41
  revert D41 s D40 g A Af ef
  generalize upd H40 p41 (.tup [V.ref p40]) = H41
  intro D41 s D40 g A Af ef
  clear h41
  refine ⟨by show 2 ≤ sizeLine; decide, fun p42 h42 => ?_⟩
  have t42 := same_new (o := .tup [V.ref p41, .int 0]) h42
  have D42 : Dp K (upd H41 p42 (.tup [V.ref p41, .int 0])) (.ref p42) (wrongD (.tuple [.list [.str a, .int 1, .int 1]], some 0)) := .tup (SqT.of upd_same) (.cons (D41.mono t42) (.cons (.int _) .nil))
  replace s := s.trans t42
  replace D41 := D41.mono t42
  replace g := g.mono t42
  replace A := A.mono t42
  replace Af := Af.mono t42
  replace ef := t42 _ _ ef
  clear t42
  revert D42 s D41 g A Af ef
  generalize upd H41 p42 (.tup [V.ref p41, .int 0]) = H42
  intro D42 s D41 g A Af ef
  clear h42
  clear D41
  replace A : DpAll K H42 [V.ref p42] [wrongD (.tuple [.list [.str a, .int 1, .int 1]], some 0)] := A.snoc D42
  clear D42
  refine ⟨_, rfl, _, _, rfl, rfl, (by rw [sizeLine_eq]; have : ("x" : Str).length = 1 := rfl; omega), by show 3 ≤ sizeLine; decide, fun p43 h43 => ?_⟩
  have t43 := same_new (o := .tup [V.str (b ++ "x"), .int 1, .int 1]) h43
  have D43 : Dp K (upd H42 p43 (.tup [V.str (b ++ "x"), .int 1, .int 1])) (.ref p43) (.tuple [.str (b ++ "x"), .int 1, .int 1]) := .tup (SqT.of upd_same) (.cons (.str _) (.cons (.int _) (.cons (.int _) .nil)))
  replace s := s.trans t43
  replace g := g.mono t43
  replace A := A.mono t43
  replace Af := Af.mono t43
  replace ef := t43 _ _ ef
  clear t43
  revert D43 s g A Af ef
  generalize upd H42 p43 (.tup [V.str (b ++ "x"), .int 1, .int 1]) = H43
  intro D43 s g A Af ef
  clear h43
  refine ⟨by show 1 ≤ sizeLine; decide, fun p44 h44 => ?_⟩
  have t44 := same_new (o := .tup [V.ref p43]) h44
  have D44 : Dp K (upd H43 p44 (.tup [V.ref p43])) (.ref p44) (.tuple [.tuple [.str (b ++ "x"), .int 1, .int 1]]) := .tup (SqT.of upd_same) (.cons (D43.mono t44) .nil)
  replace s := s.trans t44
  replace D43 := D43.mono t44
  replace g := g.mono t44
  replace A := A.mono t44
  replace Af := Af.mono t44
  replace ef := t44 _ _ ef
  clear t44
  revert D44 s D43 g A Af ef
  generalize upd H43 p44 (.tup [V.ref p43]) = H44
  intro D44 s D43 g A Af ef
  clear h44
  refine ⟨by show 2 ≤ sizeLine; decide, fun p45 h45 => ?_⟩
  have t45 := same_new (o := .tup [V.ref p44, .int 0]) h45
  have D45 : Dp K (upd H44 p45 (.tup [V.ref p44, .int 0])) (.ref p45) (wrongD (.tuple [.tuple [.str (b ++ "x"), .int 1, .int 1]], some 0)) := .tup (SqT.of upd_same) (.cons (D44.mono t45) (.cons (.int _) .nil))
  replace s := s.trans t45
  replace D44 := D44.mono t45
  replace g := g.mono t45
  replace A := A.mono t45
  replace Af := Af.mono t45
  replace ef := t45 _ _ ef
  clear t45
  revert D45 s D44 g A Af ef
  generalize upd H44 p45 (.tup [V.ref p44, .int 0]) = H45
  intro D45 s D44 g A Af ef
  clear h45
  clear D44
  replace A : DpAll K H45 [V.ref p42, .ref p45] [wrongD (.tuple [.list [.str a, .int 1, .int 1]], some 0), wrongD (.tuple [.tuple [.str (b ++ "x"), .int 1, .int 1]], some 0)] := A.snoc D45
  clear D45
  refine ⟨_, rfl, by show 3 ≤ sizeLine; decide, fun p46 h46 => ?_⟩
  have t46 := same_new (o := .tup [V.non, .int 3, .int 1]) h46
  have D46 : Dp K (upd H45 p46 (.tup [V.non, .int 3, .int 1])) (.ref p46) (.tuple [.none, .int 3, .int 1]) := .tup (SqT.of upd_same) (.cons .non (.cons (.int _) (.cons (.int _) .nil)))
  replace s := s.trans t46
  replace g := g.mono t46
  replace A := A.mono t46
  replace Af := Af.mono t46
  replace ef := t46 _ _ ef
  clear t46
  revert D46 s g A Af ef
  generalize upd H45 p46 (.tup [V.non, .int 3, .int 1]) = H46
  intro D46 s g A Af ef
  clear h46
  refine ⟨by show 2 ≤ sizeLine; decide, fun p47 h47 => ?_⟩
  have t47 := same_new (o := .tup [V.ref p1, .ref p46]) h47
  have D47 : Dp K (upd H46 p47 (.tup [V.ref p1, .ref p46])) (.ref p47) (.tuple [G, .tuple [.none, .int 3, .int 1]]) := .tup (SqT.of upd_same) (.cons (g.mono t47) (.cons (D46.mono t47) .nil))
  replace s := s.trans t47
  replace D46 := D46.mono t47
  replace g := g.mono t47
  replace A := A.mono t47
  replace Af := Af.mono t47
  replace ef := t47 _ _ ef
  clear t47
  revert D47 s D46 g A Af ef
  generalize upd H46 p47 (.tup [V.ref p1, .ref p46]) = H47
  intro D47 s D46 g A Af ef
  clear h47
  refine ⟨by show 2 ≤ sizeLine; decide, fun p48 h48 => ?_⟩
  have t48 := same_new (o := .tup [V.ref p47, .int 1]) h48
  have D48 : Dp K (upd H47 p48 (.tup [V.ref p47, .int 1])) (.ref p48) (wrongD (.tuple [G, .tuple [.none, .int 3, .int 1]], some 1)) := .tup (SqT.of upd_same) (.cons (D47.mono t48) (.cons (.int _) .nil))
  replace s := s.trans t48
  replace D47 := D47.mono t48
  replace g := g.mono t48
  replace A := A.mono t48
  replace Af := Af.mono t48
  replace ef := t48 _ _ ef
  clear t48
  revert D48 s D47 g A Af ef
  generalize upd H47 p48 (.tup [V.ref p47, .int 1]) = H48
  intro D48 s D47 g A Af ef
  clear h48
  clear D47
  replace A : DpAll K H48 [V.ref p42, .ref p45, .ref p48] [wrongD (.tuple [.list [.str a, .int 1, .int 1]], some 0), wrongD (.tuple [.tuple [.str (b ++ "x"), .int 1, .int 1]], some 0), wrongD (.tuple [G, .tuple [.none, .int 3, .int 1]], some 1)] := A.snoc D48
  clear D48
  refine ⟨by show 3 ≤ sizeLine; decide, fun p49 h49 => ?_⟩
  have t49 := same_new (o := .lst [V.ref p42, .ref p45, .ref p48]) h49
  replace s := s.trans t49
  replace g := g.mono t49
  replace A := A.mono t49
  replace Af := Af.mono t49
  replace ef := t49 _ _ ef
  have el : (upd H48 p49 (.lst [V.ref p42, .ref p45, .ref p48])) p49 = some (.lst [V.ref p42, .ref p45, .ref p48]) := upd_same
  clear t49
  revert s g A Af ef el
  generalize upd H48 p49 (.lst [V.ref p42, .ref p45, .ref p48]) = H49
  intro s g A Af ef el
  clear h49
  generalize ([V.ref p42, .ref p45, .ref p48] : List V) = Z at el A
  have lf := Af.length
  have la := A.length
  refine ⟨p39, p49, W, Z, rfl, rfl, ef, el, (by rw [lf, la]; exact Nat.le_of_lt (small1000 (by simp))), fun p50 h50 => ?_⟩
  clear lf la
  have t50 := same_new (o := .lst (W ++ Z)) h50
  replace s := s.trans t50
  replace g := g.mono t50
  replace Af := (Af.append A).mono t50
  clear A el ef
  have ef : (upd H49 p50 (.lst (W ++ Z))) p50 = some (.lst (W ++ Z)) := upd_same
  clear t50
  revert s g Af ef
  generalize upd H49 p50 (.lst (W ++ Z)) = H50
  intro s g Af ef
  clear h50
  generalize W ++ Z = W at ef Af
  dsimp only [List.set]
  have A : DpAll K H50 [] [] := .nil
  refine ⟨_, rfl, _, rfl, by show 3 ≤ sizeLine; decide, fun p51 h51 => ?_⟩
  have t51 := same_new (o := .tup [V.str b, .int 1, .int 1]) h51
  have D51 : Dp K (upd H50 p51 (.tup [V.str b, .int 1, .int 1])) (.ref p51) (.tuple [.str b, .int 1, .int 1]) := .tup (SqT.of upd_same) (.cons (.str _) (.cons (.int _) (.cons (.int _) .nil)))
  replace s := s.trans t51
  replace g := g.mono t51
  replace A := A.mono t51
  replace Af := Af.mono t51
  replace ef := t51 _ _ ef
  clear t51
  revert D51 s g A Af ef
  generalize upd H50 p51 (.tup [V.str b, .int 1, .int 1]) = H51
  intro D51 s g A Af ef
  clear h51
  refine ⟨_, rfl, by show 2 ≤ sizeLine; decide, fun p52 h52 => ?_⟩
  have t52 := same_new (o := .tup [V.ref p51, .ref p1]) h52
  have D52 : Dp K (upd H51 p52 (.tup [V.ref p51, .ref p1])) (.ref p52) (.tuple [.tuple [.str b, .int 1, .int 1], G]) := .tup (SqT.of upd_same) (.cons (D51.mono t52) (.cons (g.mono t52) .nil))
  replace s := s.trans t52
  replace D51 := D51.mono t52
  replace g := g.mono t52
  replace A := A.mono t52
  replace Af := Af.mono t52
  replace ef := t52 _ _ ef
  clear t52
  revert D52 s D51 g A Af ef
  generalize upd H51 p52 (.tup [V.ref p51, .ref p1]) = H52
  intro D52 s D51 g A Af ef
  clear h52
  refine ⟨by show 2 ≤ sizeLine; decide, fun p53 h53 => ?_⟩
  have t53 := same_new (o := .tup [V.ref p52, .int 1]) h53
  have D53 : Dp K (upd H52 p53 (.tup [V.ref p52, .int 1])) (.ref p53) (wrongD (.tuple [.tuple [.str b, .int 1, .int 1], G], some 1)) := .tup (SqT.of upd_same) (.cons (D52.mono t53) (.cons (.int _) .nil))
  replace s := s.trans t53
  replace D52 := D52.mono t53
  replace g := g.mono t53
  replace A := A.mono t53
  replace Af := Af.mono t53
  replace ef := t53 _ _ ef
  clear t53
  revert D53 s D52 g A Af ef
  generalize upd H52 p53 (.tup [V.ref p52, .int 1]) = H53
  intro D53 s D52 g A Af ef
  clear h53
  clear D52
  replace A : DpAll K H53 [V.ref p53] [wrongD (.tuple [.tuple [.str b, .int 1, .int 1], G], some 1)] := A.snoc D53
  clear D53
  refine ⟨_, rfl, _, rfl, by show 3 ≤ sizeLine; decide, fun p54 h54 => ?_⟩
  have t54 := same_new (o := .tup [V.str a, .int 2, .int 5]) h54
  have D54 : Dp K (upd H53 p54 (.tup [V.str a, .int 2, .int 5])) (.ref p54) (.tuple [.str a, .int 2, .int 5]) := .tup (SqT.of upd_same) (.cons (.str _) (.cons (.int _) (.cons (.int _) .nil)))
  replace s := s.trans t54
  replace g := g.mono t54
  replace A := A.mono t54
  replace Af := Af.mono t54
  replace ef := t54 _ _ ef
  clear t54
  revert D54 s g A Af ef
  generalize upd H53 p54 (.tup [V.str a, .int 2, .int 5]) = H54
  intro D54 s g A Af ef
  clear h54
  refine ⟨by show 2 ≤ sizeLine; decide, fun p55 h55 => ?_⟩
  have t55 := same_new (o := .tup [V.ref p1, .ref p54]) h55
  have D55 : Dp K (upd H54 p55 (.tup [V.ref p1, .ref p54])) (.ref p55) (.tuple [G, .tuple [.str a, .int 2, .int 5]]) := .tup (SqT.of upd_same) (.cons (g.mono t55) (.cons (D54.mono t55) .nil))
  replace s := s.trans t55
  replace D54 := D54.mono t55
  replace g := g.mono t55
  replace A := A.mono t55
  replace Af := Af.mono t55
  replace ef := t55 _ _ ef
  clear t55
  revert D55 s D54 g A Af ef
  generalize upd H54 p55 (.tup [V.ref p1, .ref p54]) = H55
  intro D55 s D54 g A Af ef
  clear h55
  refine ⟨by show 2 ≤ sizeLine; decide, fun p56 h56 => ?_⟩
  have t56 := same_new (o := .tup [V.ref p55, .int 1]) h56
  have D56 : Dp K (upd H55 p56 (.tup [V.ref p55, .int 1])) (.ref p56) (wrongD (.tuple [G, .tuple [.str a, .int 2, .int 5]], some 1)) := .tup (SqT.of upd_same) (.cons (D55.mono t56) (.cons (.int _) .nil))
  replace s := s.trans t56
  replace D55 := D55.mono t56
  replace g := g.mono t56
  replace A := A.mono t56
  replace Af := Af.mono t56
  replace ef := t56 _ _ ef
  clear t56
  revert D56 s D55 g A Af ef
  generalize upd H55 p56 (.tup [V.ref p55, .int 1]) = H56
  intro D56 s D55 g A Af ef
  clear h56
  clear D55
  replace A : DpAll K H56 [V.ref p53, .ref p56] [wrongD (.tuple [.tuple [.str b, .int 1, .int 1], G], some 1), wrongD (.tuple [G, .tuple [.str a, .int 2, .int 5]], some 1)] := A.snoc D56
  clear D56
  refine ⟨by show 2 ≤ sizeLine; decide, fun p57 h57 => ?_⟩
  have t57 := same_new (o := .lst [V.ref p53, .ref p56]) h57
  replace s := s.trans t57
  replace g := g.mono t57
  replace A := A.mono t57
  replace Af := Af.mono t57
  replace ef := t57 _ _ ef
  have el : (upd H56 p57 (.lst [V.ref p53, .ref p56])) p57 = some (.lst [V.ref p53, .ref p56]) := upd_same
  clear t57
  revert s g A Af ef el
  generalize upd H56 p57 (.lst [V.ref p53, .ref p56]) = H57
  intro s g A Af ef el
  clear h57
  generalize ([V.ref p53, .ref p56] : List V) = Z at el A
  have lf := Af.length
  have la := A.length
  refine ⟨p50, p57, W, Z, rfl, rfl, ef, el, (by rw [lf, la]; exact Nat.le_of_lt (small1000 (by simp))), fun p58 h58 => ?_⟩
  clear lf la
  have t58 := same_new (o := .lst (W ++ Z)) h58
  replace s := s.trans t58
  replace g := g.mono t58
  replace Af := (Af.append A).mono t58
  clear A el ef
  have ef : (upd H57 p58 (.lst (W ++ Z))) p58 = some (.lst (W ++ Z)) := upd_same
  clear t58
  revert s g Af ef
  generalize upd H57 p58 (.lst (W ++ Z)) = H58
  intro s g Af ef
  clear h58
  generalize W ++ Z = W at ef Af
  dsimp only [List.set]
  refine ⟨_, rfl, 1, 202, rfl, ⟨by decide, by decide, by decide, by decide⟩, fun p59 h59 => ?_⟩
  have f59 := h59
  refine lc_range (lo := 1) (n := ((202 : Int) - 1).toNat) (fun i Hm => Same H58 Hm ∧ ∃ ws, Hm p59 = some (.lst ws) ∧ ws.length = i ∧ DpAll K (hid p59 Hm) ws ((List.range i).map fun k : Nat => rowW (.str a) (.int ((k : Int) + 1)) (.int 1))) ⟨same_new h59, [], upd_same, rfl, .nil⟩ ?_ ?_
  · rintro i Hm hi ⟨sm, ws, ew, lw, Dw⟩
    have hi : i < 201 := hi
    refine ⟨rfl, yesIf ⟨_, rfl, _, rfl, by show 3 ≤ sizeLine; decide, fun tp htp => ?_⟩⟩
    have st := same_new (o := .tup [V.str a, .int (1 + (i : Int)), .int 1]) htp
    have ntp : tp ≠ p59 := fun z => by rw [z, ew] at htp; cases htp
    refine ⟨ws, st _ _ ew, small1000 (by omega), Same.app f59 (sm.trans st), _, upd_same, by rw [List.length_append, lw]; rfl, ?_⟩
    rw [List.range_succ, List.map_append]
    refine ((Dw.mono (hid_same (b := p59) st)).mono hid_put).append (.cons (.tup (SqT.of ((hid_ne ntp).trans (by rw [upd_ne ntp]; exact upd_same))) (.cons (.str _) (.cons ?_ (.cons (.int _) .nil)))) .nil)
    rw [show (1 : Int) + (i : Int) = (i : Int) + 1 by omega]
    exact .int _
  rintro H60 ⟨s60, ws, ew, lw, Dw⟩
  replace s := s.trans s60
  replace g := g.mono s60
  replace ef := s60 _ _ ef
  replace Af := Af.mono s60
  have Dw2 : DpAll K H60 ws ((List.range 201).map fun k : Nat => rowW (.str a) (.int ((k : Int) + 1)) (.int 1)) := Dw.mono hid_sub
  refine ⟨p59, ws, rfl, .inl ⟨SqL.of ew, fun p60 h60 => ⟨by show 2 ≤ sizeLine; decide, fun p61 h61 => ⟨by show 1 ≤ sizeLine; decide, fun p62 h62 => ?_⟩⟩⟩⟩
  have t1 := same_new (o := .tup ws) h60
  have t2 := same_new (o := .tup [V.ref p60, .int 200]) h61
  have t3 := same_new (o := .lst [V.ref p61]) h62
  have D61 : Dp K (upd (upd H60 p60 (.tup ws)) p61 (.tup [V.ref p60, .int 200])) (.ref p61) (wrongD (.tuple ((List.range 201).map fun k : Nat => rowW (.str a) (.int ((k : Int) + 1)) (.int 1)), some 200)) :=
    .tup (SqT.of upd_same) (.cons ((Dp.tup (SqT.of upd_same) (Dw2.mono t1)).mono t2) (.cons (.int _) .nil))
  have t := (t1.trans t2).trans t3
  have A : DpAll K (upd (upd (upd H60 p60 (.tup ws)) p61 (.tup [V.ref p60, .int 200])) p62 (.lst [V.ref p61])) [V.ref p61] [wrongD (.tuple ((List.range 201).map fun k : Nat => rowW (.str a) (.int ((k : Int) + 1)) (.int 1)), some 200)] := .cons (D61.mono t3) .nil
  have lf := Af.length
  refine ⟨p58, p62, W, [V.ref p61], rfl, rfl, t _ _ ef, upd_same, (by rw [lf]; exact Nat.le_of_lt (small1000 (by simp))), fun p63 h63 => ?_⟩
  have t4 := same_new (o := .lst (W ++ [V.ref p61])) h63
  refine q p63 (W ++ [V.ref p61]) _ ((s.trans t).trans t4) upd_same ?_
  have fin := ((Af.mono t).append A).mono t4
  subst eG
  exact fin
end
end Ts
namespace Ts
open PySem PySem.Spec PyProof.Rows L2 L2H LamX
section
variable {P : Program} {w : World} {K : PySem.W.Frag} {mg : Str → Option Value} {base : Heap}
theorem has_right44 {C : Addr} {c : Cls9} {b3 : Bas3} {cd PT : Addr} {Tb : List (Addr × Str)} (D : DefAtC K mg "_law_right" s__law_right cd) (TB : TabB base mg cd PT) (hmT : (PT, (("_law_right" : Str) ++ ".<locals>." ++ "<lambda>")) ∈ Tb) (hu2 : ∀ p ∈ Tb, p.1 = PT → p.2 = ("_law_right" : Str) ++ ".<locals>." ++ "<lambda>") (B : Blt0 mg) (T : LotC K mg C) (hL : HasM P w K mg base 6 C ["self", "text"] (spInit K C)) (N : ErrN9 mg c b3) (EL : SortI K c b3 c.l 0 "NotALot") (ER : SortI K c b3 c.r 3 "InvalidRule") (EI : SortI K c b3 c.a 6 "InvalidLates") (EN : SortI K c b3 c.n 2 "InvalidNumber") (EY : SortI K c b3 c.y 8 "TooMany")
    (D__law_caught : DefAt K mg "_law_caught" s__law_caught) (h__law_sort : HasP P w K mg base 1 "_law_sort" ["_law_e"] (spSort K c))
    (hx_run : HasX P w K mg base 11 "run" ["lot", "rule", "lates", "ticks"] (spRunX K C c.l c.r c.a c.n)) (hqx_run : HasQX P w K mg base 11 "run" ["lot", "rule", "lates", "ticks"] ["ticks", "lates", "rule", "lot"] back (spRunX K C c.l c.r c.a c.n)) (hx_worst : HasX P w K mg base 11 "worst" ["lot", "rule"] (spWorstX K C c.l c.r c.y)) (hqx_worst : HasQX P w K mg base 11 "worst" ["lot", "rule"] ["rule", "lot"] back (spWorstX K C c.l c.r c.y))
    (h__law_odd : Has P w K mg base 3 "_law_odd" ["_law_jar_here"] (spOddJ K)) (h__law_take : Has P w K mg base 2 "_law_take" ["_law_jar_here", "_law_some"] (spTakeJ K)) (h__law_rules : Has P w K mg base 1 "_law_rules" [] (spRulesJ K)) (h__law_wrong : Has P w K mg base 1 "_law_wrong" ["_law_a", "_law_b"] (spWrong44 K)) :
    HasG P w K mg base 15 "_law_right" ["_law_jar_here"] (spRightT Tb) := by
  refine D.hasG (fun _ _ _ _ _ _ us hl => match us, hl with | [_], _ => rfl) fun f fd F hcode => fun_gc F hcode sc__law_right (fun vs H Q E h => ?_) (fun A outer s H vs Q hg0 hr h => ?_)
  · obtain ⟨b, rfl, _⟩ := h; rfl
  obtain ⟨b, rfl, hB, hT, q⟩ := h
  have hg : (A.deeper (envOfC "_law_right" (defScope s__law_right) s.heap.objs.size f (.ref cd))).guards = some [] := hg0
  refine ⟨_, (pss_cons (ps_asg (pe_tup (pa_cons (pe_h h__law_odd (hr.mono (by decide)) (pa_cons (pv 0) pa_nil)) (pa_cons (pe_h h__law_take (hr.mono (by decide)) (pa_cons (pv 0) (pa_cons (pe_h0 h__law_rules (hr.mono (by decide))) pa_nil))) pa_nil))) (pg_tup rfl (pgs_cons (pg_name (i := 1) sc__law_right.nd rfl (.inr rfl)) (pgs_cons (pg_name (i := 2) sc__law_right.nd rfl (.inr rfl)) pgs_nil))))
      (pss_cons (ps_set (i := 3) sc__law_right.nd rfl (.inr rfl) (pe_h h__law_take (hr.mono (by decide)) (pa_cons (pv 0) (pa_cons (pe_lst (pa_cons pe_str (pa_cons pe_str (pa_cons pe_non (pa_cons pe_int (pa_cons (pe_tup (pa_cons pe_str pa_nil)) (pa_cons (pe_lst (pa_cons pe_str pa_nil)) (pa_cons pe_str (pa_cons pe_bl pa_nil))))))))) pa_nil))))
      (pss_cons (ps_set (i := 4) sc__law_right.nd rfl (.inr rfl) (pe_h h__law_take (hr.mono (by decide)) (pa_cons (pv 0) (pa_cons (pe_lst (pa_cons pe_non (pa_cons pe_bl (pa_cons (pe_un un_neg pe_int) (pa_cons pe_int (pa_cons pe_str (pa_cons (pe_tup (pa_cons pe_int pa_nil)) (pa_cons (pe_lst (pa_cons pe_int pa_nil)) pa_nil)))))))) pa_nil))))
      (pss_cons (ps_asg (pe_h h__law_take (hr.mono (by decide)) (pa_cons (pv 0) (pa_cons (pe_lst (pa_cons (pe_tup (pa_cons pe_str (pa_cons pe_str pa_nil))) (pa_cons (pe_tup (pa_cons pe_str (pa_cons pe_str pa_nil))) (pa_cons (pe_tup (pa_cons pe_str (pa_cons pe_str pa_nil))) pa_nil)))) pa_nil))) (pg_tup rfl (pgs_cons (pg_name (i := 5) sc__law_right.nd rfl (.inr rfl)) (pgs_cons (pg_name (i := 6) sc__law_right.nd rfl (.inl rfl)) pgs_nil))))
      (pss_cons (ps_set (i := 7) sc__law_right.nd rfl (.inr rfl) (pe_hm hL T.mgC (hr.mono (by decide)) (pa_cons (pe_join pe_str (pe_lst (pa_cons pe_str (pa_cons (pe_op op_add_str (pe_op op_add_str pe_str (pv 6)) pe_str) (pa_cons (pe_op op_add_str (pe_op op_add_str pe_str (pv 5)) pe_str) pa_nil))))) pa_nil)))
      (pss_cons (ps_set (i := 8) sc__law_right.nd rfl (.inl rfl) (pe_lst (pa_cons (pe_caught3 (k := 11) D__law_caught N B h__law_sort hg (hr.mono (by decide)) (by decide) TB rfl hmT hu2 (lamS_by (sc := defScope s__law_right) (by decide +kernel)) (hbody := fun A1 o1 s1 H1 E1 f1 c1 hrL => (by exact pe_eq (pe_x hx_run (hrL.mono (by decide)) (takes_of (E := E1) rfl rfl rfl rfl) (pa_cons (pv 1) (pa_cons (pv 3) (pa_cons pe_non (pa_cons (pv 4) pa_nil))))) rfl))) pa_nil)))
      (pss_cons (ps_expr (pe_bm PySem.F.plainAttrs_list PySem.F.slot_list_append PySem.F.type_list_append mt_append (pv 8) (pa_cons (pe_caught3 (k := 11) D__law_caught N B h__law_sort hg (hr.mono (by decide)) (by decide) TB rfl hmT hu2 (lamS_by (sc := defScope s__law_right) (by decide +kernel)) (hbody := fun A1 o1 s1 H1 E1 f1 c1 hrL => (by exact pe_eq (pe_x hx_run (hrL.mono (by decide)) (takes_of (E := E1) rfl rfl rfl rfl) (pa_cons (pv 7) (pa_cons (pv 3) (pa_cons pe_non (pa_cons (pv 4) pa_nil))))) rfl))) pa_nil)))
      (pss_cons (ps_expr (pe_bm PySem.F.plainAttrs_list PySem.F.slot_list_append PySem.F.type_list_append mt_append (pv 8) (pa_cons (pe_caught3 (k := 11) D__law_caught N B h__law_sort hg (hr.mono (by decide)) (by decide) TB rfl hmT hu2 (lamS_by (sc := defScope s__law_right) (by decide +kernel)) (hbody := fun A1 o1 s1 H1 E1 f1 c1 hrL => (by exact pe_eq (pe_hqx hqx_run (hrL.mono (by decide)) (takes_of (E := E1) rfl rfl rfl rfl) (pk_cons (pv 4) (pk_cons (pe_tup pa_nil) (pk_cons (pv 2) (pk_cons (pv 7) pk_nil))))) rfl))) pa_nil)))
      (pss_cons (ps_expr (pe_bm PySem.F.plainAttrs_list PySem.F.slot_list_append PySem.F.type_list_append mt_append (pv 8) (pa_cons (pe_caught3 (k := 11) D__law_caught N B h__law_sort hg (hr.mono (by decide)) (by decide) TB rfl hmT hu2 (lamS_by (sc := defScope s__law_right) (by decide +kernel)) (hbody := fun A1 o1 s1 H1 E1 f1 c1 hrL => (by exact pe_eq (pe_x hx_worst (hrL.mono (by decide)) (takes_of (E := E1) rfl rfl rfl rfl) (pa_cons (pv 1) (pa_cons (pv 3) pa_nil))) rfl))) pa_nil)))
      (pss_cons (ps_expr (pe_bm PySem.F.plainAttrs_list PySem.F.slot_list_append PySem.F.type_list_append mt_append (pv 8) (pa_cons (pe_caught3 (k := 11) D__law_caught N B h__law_sort hg (hr.mono (by decide)) (by decide) TB rfl hmT hu2 (lamS_by (sc := defScope s__law_right) (by decide +kernel)) (hbody := fun A1 o1 s1 H1 E1 f1 c1 hrL => (by exact pe_eq (pe_hqx hqx_worst (hrL.mono (by decide)) (takes_of (E := E1) rfl rfl rfl rfl) (pk_cons (pv 3) (pk_cons (pv 7) pk_nil))) rfl))) pa_nil)))
      (pss_cons (ps_set (i := 9) sc__law_right.nd rfl (.inl rfl) (pe_lst (pa_cons (pe_tup (pa_cons pe_str (pa_cons (pv 1) pa_nil))) (pa_cons (pe_tup (pa_cons pe_str (pa_cons (pv 3) pa_nil))) pa_nil))))
      (pss_cons (ps_if (pt_cmpR (op_neS (hu64 hr)) (pv 8) (pe_op op_cat (pe_op op_cat (pv 9) (pe_lst (pa_cons (pe_tup (pa_cons pe_str (pa_cons (pv 4) pa_nil))) pa_nil))) (pv 9)) (nomark _)) (pss_one (ps_ret pe_bl)) pss_nil)
      (pss_cons (ps_for PassesOwn.never rfl (pi_list (pe_h h__law_wrong (hr.mono (by decide)) (pa_cons (pv 5) (pa_cons (pv 6) pa_nil)))) (pg_tup rfl (pgs_cons (pg_name (i := 10) sc__law_right.nd rfl (.inr rfl)) (pgs_cons (pg_name (i := 11) sc__law_right.nd rfl (.inl rfl)) pgs_nil))) (pss_one (ps_if (pt_cmpR (op_neS (hu64 hr)) (pe_caught3 (k := 11) D__law_caught N B h__law_sort hg (hr.mono (by decide)) (by decide) TB rfl hmT hu2 (lamS_by (sc := defScope s__law_right) (by decide +kernel)) (hbody := fun A1 o1 s1 H1 E1 f1 c1 hrL => (by exact pe_eq (pe_x hx_run (hrL.mono (by decide)) (takes_of (E := E1) rfl rfl rfl rfl) (pa_cons (pv 7) (pa_cons (pv 2) (pa_cons (pv 10) (pa_cons (pv 4) pa_nil))))) rfl))) (pe_tup (pa_cons pe_str (pa_cons (pv 11) pa_nil))) (nomark _)) (pss_one (ps_ret pe_bl)) pss_nil)))
      (pss_cons (ps_if (pt_cmpR op_ne (pe_ix ix_tup (pe_caught3 (k := 11) D__law_caught N B h__law_sort hg (hr.mono (by decide)) (by decide) TB rfl hmT hu2 (lamS_by (sc := defScope s__law_right) (by decide +kernel)) (hbody := fun A1 o1 s1 H1 E1 f1 c1 hrL => (by exact pe_eq (pe_x hx_run (hrL.mono (by decide)) (takes_of (E := E1) rfl rfl rfl rfl) (pa_cons (pv 7) (pa_cons (pv 2) (pa_cons (pe_callTy (tupOfK (K := K) rfl) (by rfl) B.ztuple (by decide +kernel) (pa_cons (pe_lc (own := [("_law_k", 12)]) rfl sc__law_right.nd (pi_range2 (by rfl) B.zrange (pa_cons pe_int (pa_cons pe_int pa_nil))) (blkOk_lam (N := ["_law_jar_here", "_law_odd_here", "_law_word", "_law_wrong_here", "_law_late", "_law_a", "_law_b", "_law_made", "_law_told", "_law_due", "_law_some", "_law_at", "_law_k", "_law_tag", "_law_rows"]) (own := [("_law_k", 12)]) rfl (by decide +kernel)) (fun _ _ _ _ _ => (pg_name (i := 12) sc__law_right.nd rfl (.inl rfl) (.inr rfl))) (fun _ _ _ _ _ => pts_nil) (fun _ _ _ _ _ => (pe_tup (pa_cons (pv 5) (pa_cons (pv 12) (pa_cons pe_int pa_nil)))))) pa_nil)) (pa_cons pe_int pa_nil))))) rfl))) pe_int (fun _ _ => rfl)) pe_str (nomark _)) (pss_one (ps_ret pe_bl)) pss_nil)
      (pss_cons (ps_set (i := 14) sc__law_right.nd rfl (.inr rfl) (pe_op op_cat (pe_lst (pa_cons pe_str pa_nil)) (pe_lc (own := [("_law_tag", 13)]) rfl sc__law_right.nd (pi_list (pe_lst (pa_cons pe_str (pa_cons pe_str (pa_cons pe_str (pa_cons pe_str pa_nil)))))) (blkOk_by (N := ["_law_jar_here", "_law_odd_here", "_law_word", "_law_wrong_here", "_law_late", "_law_a", "_law_b", "_law_made", "_law_told", "_law_due", "_law_some", "_law_at", "_law_k", "_law_tag", "_law_rows"]) (sc := defScope s__law_right) (own := [("_law_tag", 13)]) (by decide +kernel)) (fun _ _ _ _ _ => (pg_name (i := 13) sc__law_right.nd rfl (.inl rfl) (.inr rfl))) (fun _ _ _ _ _ => pts_nil) (fun _ _ _ _ _ => (pe_op op_add_str (pe_op op_add_str pe_str (pv 13)) pe_str)))))
      (pss_cons (ps_set (i := 8) sc__law_right.nd rfl (.inl rfl) (pe_lst (pa_cons (pe_caught3 (k := 11) D__law_caught N B h__law_sort hg (hr.mono (by decide)) (by decide) TB rfl hmT hu2 (lamS_by (sc := defScope s__law_right) (by decide +kernel)) (hbody := fun A1 o1 s1 H1 E1 f1 c1 hrL => (by exact pe_eq (pe_x hx_worst (hrL.mono (by decide)) (takes_of (E := E1) rfl rfl rfl rfl) (pa_cons (pe_hm hL T.mgC (hrL.mono (by decide)) (pa_cons (pe_joinK (K := K) rfl pe_str (pe_op op_cat (pv 14) (pe_lst (pa_cons pe_str pa_nil)))) pa_nil)) (pa_cons (pv 2) pa_nil))) rfl))) pa_nil)))
      (pss_cons (ps_expr (pe_bm PySem.F.plainAttrs_list PySem.F.slot_list_append PySem.F.type_list_append mt_append (pv 8) (pa_cons (pe_caught3 (k := 11) D__law_caught N B h__law_sort hg (hr.mono (by decide)) (by decide) TB rfl hmT hu2 (lamS_by (sc := defScope s__law_right) (by decide +kernel)) (hbody := fun A1 o1 s1 H1 E1 f1 c1 hrL => (by exact pe_eq (pe_x hx_worst (hrL.mono (by decide)) (takes_of (E := E1) rfl rfl rfl rfl) (pa_cons (pe_hm hL T.mgC (hrL.mono (by decide)) (pa_cons (pe_joinK (K := K) rfl pe_str (pv 14)) pa_nil)) (pa_cons (pv 2) pa_nil))) rfl))) pa_nil)))
      (pss_one (ps_ret (pe_cmpR (op_eqS (hu64 hr)) (pv 8) (pe_lst (pa_cons (pe_tup (pa_cons pe_str (pa_cons pe_int pa_nil))) (pa_cons (pe_tup (pa_cons pe_str (pa_cons pe_int pa_nil))) pa_nil))) (nomark _))))))))))))))))))))), ?_⟩
  -- a thing that is no lot, a rule
  refine ⟨_, rfl, b, rfl, hB, fun vo H1 b1 B1 hN fl => ?_⟩
  have N1 := hN.ext (hid_hid2 (b := b) (H := H1))
  have T1 := tabs_but hT hB b1
  have x1 : Ext2 b H H1 := Ext2.but b1
  clear hN b1 hT hB
  refine ⟨_, rfl, rfl, fun pr H2 hpr s2 e2 => ?_⟩
  have npr : pr ≠ b := B1.off hpr
  have T2 := T1.ext s2
  refine ⟨b, pr, _, rfl, B1.on s2, SqL.of ((hid_ne npr).trans e2), by decide, by decide, fun vr H3 mv b3' B3 => ?_⟩
  obtain ⟨rw0, mrw, rfl⟩ := List.mem_map.mp mv
  obtain ⟨rn, hrw⟩ := List.mem_iff_getElem?.mp mrw
  have x13 : Ext2 b H1 H3 := (Ext2.same s2).trans (Ext2.but b3')
  have T3 := tabs_but T2 (B1.on s2) b3'
  have N3 := N1.mono x13.hid
  have x3 := x1.trans x13
  clear mv mrw x13 T2 N1 x1 b3' npr hpr e2 s2 T1 B1
  refine ⟨by show 2 ≤ sizeLine; decide, fun pt hpt => ⟨pt, _, rfl, SqT.of upd_same, rfl, _, _, rfl, _, _, rfl, rfl, ?_⟩⟩
  have s4 := same_new (o := .tup [vo, .str rw0]) hpt
  have B4 := B3.on s4
  have T4 := T3.ext s4
  have N4 := N3.mono (Ext2.same (b := b) s4).hid
  have x4 := x3.trans (Ext2.same s4)
  revert B4 T4 N4 x4
  clear s4
  generalize upd H3 pt (.tup [vo, .str rw0]) = H4
  intro B4 T4 N4 x4
  clear hpt B3 T3 N3 x3
  dsimp only [List.set]
  -- what is no rule
  refine ⟨_, rfl, by show 1 ≤ sizeLine; decide, fun q1 h1 => ⟨by show 1 ≤ sizeLine; decide, fun q2 h2 => ⟨by show 8 ≤ sizeLine; decide, fun M hM => ?_⟩⟩⟩
  have m1 : q1 ≠ b := B4.off h1
  have m2 : q2 ≠ b := (B4.on (same_new h1)).off h2
  have nM : M ≠ b := ((B4.on (same_new h1)).on (same_new h2)).off hM
  refine ⟨b, M, [V.str "Keen", .str "", .non, .int 0, .ref q1, .ref q2, .str "near", .bl true], rfl, ((B4.on (same_new h1)).on (same_new h2)).on (same_new hM), SqL.of ((hid_ne nM).trans upd_same), (show 0 < 8 by decide), (show 8 ≤ 1000 by decide), fun vw H5 hvw b5 B5 => ?_⟩
  have e1 : H5 q1 = some (.tup [.str "keen"]) := b5 _ _ m1 (same_new hM _ _ (same_new h2 _ _ upd_same))
  have e2 : H5 q2 = some (.lst [.str "keen"]) := b5 _ _ m2 (same_new hM _ _ upd_same)
  have sA := (same_new (o := .tup [.str "keen"]) h1).trans ((same_new h2).trans (same_new (o := .lst [V.str "Keen", .str "", .non, .int 0, .ref q1, .ref q2, .str "near", .bl true]) hM))
  have xA : Ext2 b H4 H5 := (Ext2.same sA).trans (Ext2.but b5)
  obtain ⟨hw5, flW⟩ : RuleV K (hid2 b H5) vw none ∧ Flat vw := by
    rcases List.mem_cons.mp hvw with rfl | hvw
    · exact ⟨.inl ⟨_, rfl, by decide +kernel⟩, .inr (.inr (.inr (.inr ⟨_, rfl⟩)))⟩
    rcases List.mem_cons.mp hvw with rfl | hvw
    · exact ⟨.inl ⟨_, rfl, by decide +kernel⟩, .inr (.inr (.inr (.inr ⟨_, rfl⟩)))⟩
    rcases List.mem_cons.mp hvw with rfl | hvw
    · exact ⟨.inr ⟨"NoneType", by decide, .base .non⟩, .inr (.inl rfl)⟩
    rcases List.mem_cons.mp hvw with rfl | hvw
    · exact ⟨.inr ⟨"int", by decide, .base (.int _)⟩, .inr (.inr (.inr (.inl ⟨_, rfl⟩)))⟩
    rcases List.mem_cons.mp hvw with rfl | hvw
    · exact ⟨.inr ⟨"tuple", by decide, .base (.tup (hid2_of m1 (fun _ z => by cases z) e1))⟩, .inl ⟨_, rfl⟩⟩
    rcases List.mem_cons.mp hvw with rfl | hvw
    · exact ⟨.inr ⟨"list", by decide, .base (.lst (hid2_of m2 (fun _ z => by cases z) e2))⟩, .inl ⟨_, rfl⟩⟩
    rcases List.mem_cons.mp hvw with rfl | hvw
    · exact ⟨.inl ⟨_, rfl, by decide +kernel⟩, .inr (.inr (.inr (.inr ⟨_, rfl⟩)))⟩
    rcases List.mem_cons.mp hvw with rfl | hvw
    · exact ⟨.inr ⟨"bool", by decide, .base (.bl _)⟩, .inr (.inr (.inl ⟨_, rfl⟩))⟩
    · cases hvw
  have T5 : Tabs Tb H5 := tabs_but (T4.ext sA) (B4.on sA) b5
  have N5 := N4.mono xA.hid
  have x5 := x4.trans xA
  clear h1 h2 hM e1 e2 m1 m2 nM hvw b5 B4 sA xA T4 N4 x4 q1 q2 M
  dsimp only [List.set]
  -- what are no ticks
  refine ⟨_, rfl, _, rfl, by show 1 ≤ sizeLine; decide, fun q1 h1 => ⟨by show 1 ≤ sizeLine; decide, fun q2 h2 => ⟨by show 7 ≤ sizeLine; decide, fun M hM => ?_⟩⟩⟩
  have m1 : q1 ≠ b := B5.off h1
  have m2 : q2 ≠ b := (B5.on (same_new h1)).off h2
  have nM : M ≠ b := ((B5.on (same_new h1)).on (same_new h2)).off hM
  refine ⟨b, M, [V.non, .bl true, .int (-1), .int 2001, .str "3", .ref q1, .ref q2], rfl, ((B5.on (same_new h1)).on (same_new h2)).on (same_new hM), SqL.of ((hid_ne nM).trans upd_same), (show 0 < 7 by decide), (show 7 ≤ 1000 by decide), fun vl H6 hvl b6 B6 => ?_⟩
  have e1 : H6 q1 = some (.tup [.int 3]) := b6 _ _ m1 (same_new hM _ _ (same_new h2 _ _ upd_same))
  have e2 : H6 q2 = some (.lst [.int 3]) := b6 _ _ m2 (same_new hM _ _ upd_same)
  have sA := (same_new (o := .tup [.int 3]) h1).trans ((same_new h2).trans (same_new (o := .lst [V.non, .bl true, .int (-1), .int 2001, .str "3", .ref q1, .ref q2]) hM))
  have xA : Ext2 b H5 H6 := (Ext2.same sA).trans (Ext2.but b6)
  obtain ⟨k, hk6, hin, flL⟩ : ∃ k, KindV K (hid2 b H6) vl k ∧ inRg k 0 2000 = false ∧ Flat vl := by
    rcases List.mem_cons.mp hvl with rfl | hvl
    · exact ⟨none, ⟨"NoneType", by decide, .base .non⟩, rfl, .inr (.inl rfl)⟩
    rcases List.mem_cons.mp hvl with rfl | hvl
    · exact ⟨none, ⟨"bool", by decide, .base (.bl _)⟩, rfl, .inr (.inr (.inl ⟨_, rfl⟩))⟩
    rcases List.mem_cons.mp hvl with rfl | hvl
    · exact ⟨some _, rfl, by decide +kernel, .inr (.inr (.inr (.inl ⟨_, rfl⟩)))⟩
    rcases List.mem_cons.mp hvl with rfl | hvl
    · exact ⟨some _, rfl, by decide +kernel, .inr (.inr (.inr (.inl ⟨_, rfl⟩)))⟩
    rcases List.mem_cons.mp hvl with rfl | hvl
    · exact ⟨none, ⟨"str", by decide, .base (.str _)⟩, rfl, .inr (.inr (.inr (.inr ⟨_, rfl⟩)))⟩
    rcases List.mem_cons.mp hvl with rfl | hvl
    · exact ⟨none, ⟨"tuple", by decide, .base (.tup (hid2_of m1 (fun _ z => by cases z) e1))⟩, rfl, .inl ⟨_, rfl⟩⟩
    rcases List.mem_cons.mp hvl with rfl | hvl
    · exact ⟨none, ⟨"list", by decide, .base (.lst (hid2_of m2 (fun _ z => by cases z) e2))⟩, rfl, .inl ⟨_, rfl⟩⟩
    · cases hvl
  have T6 : Tabs Tb H6 := tabs_but (T5.ext sA) (B5.on sA) b6
  have N6 := N5.mono xA.hid
  have hw6 := hw5.mono xA.hid
  have x6 := x5.trans xA
  clear h1 h2 hM e1 e2 m1 m2 nM hvl b6 B5 sA xA T5 N5 hw5 x5 q1 q2 M
  dsimp only [List.set]
  -- the names
  refine ⟨_, rfl, by show 2 ≤ sizeLine; decide, fun q1 h1 => ⟨by show 2 ≤ sizeLine; decide, fun q2 h2 => ⟨by show 2 ≤ sizeLine; decide, fun q3 h3 => ⟨by show 3 ≤ sizeLine; decide, fun M hM => ?_⟩⟩⟩⟩
  have s1 := same_new (o := .tup [V.str "a", .str "b"]) h1
  have s2 := same_new (o := .tup [V.str "hands", .str "work"]) h2
  have s3 := same_new (o := .tup [V.str "q", .str "qq"]) h3
  have sM := same_new (o := .lst [V.ref q1, .ref q2, .ref q3]) hM
  have m1 : q1 ≠ b := B6.off h1
  have m2 : q2 ≠ b := (B6.on s1).off h2
  have m3 : q3 ≠ b := ((B6.on s1).on s2).off h3
  have nM : M ≠ b := (((B6.on s1).on s2).on s3).off hM
  refine ⟨b, M, [V.ref q1, .ref q2, .ref q3], rfl, (((B6.on s1).on s2).on s3).on sM, SqL.of ((hid_ne nM).trans upd_same), (show 0 < 3 by decide), (show 3 ≤ 1000 by decide), fun vn H7 hvn b7 B7 => ?_⟩
  have e1 : H7 q1 = some (.tup [V.str "a", .str "b"]) := b7 _ _ m1 (sM _ _ (s3 _ _ (s2 _ _ upd_same)))
  have e2 : H7 q2 = some (.tup [V.str "hands", .str "work"]) := b7 _ _ m2 (sM _ _ (s3 _ _ upd_same))
  have e3 : H7 q3 = some (.tup [V.str "q", .str "qq"]) := b7 _ _ m3 (sM _ _ upd_same)
  obtain ⟨ta, tb, pn, rfl, hab, en⟩ : ∃ (ta tb : Str) (pn : Addr), vn = .ref pn ∧ (ta, tb) ∈ absL ∧ H7 pn = some (.tup [.str ta, .str tb]) := by
    rcases List.mem_cons.mp hvn with rfl | hvn
    · exact ⟨"a", "b", q1, rfl, by decide, e1⟩
    rcases List.mem_cons.mp hvn with rfl | hvn
    · exact ⟨"hands", "work", q2, rfl, by decide, e2⟩
    rcases List.mem_cons.mp hvn with rfl | hvn
    · exact ⟨"q", "qq", q3, rfl, by decide, e3⟩
    · cases hvn
  have sA := ((s1.trans s2).trans s3).trans sM
  have xA : Ext2 b H6 H7 := (Ext2.same sA).trans (Ext2.but b7)
  have T7 : Tabs Tb H7 := tabs_but (T6.ext sA) (B6.on sA) b7
  have N7 := N6.mono xA.hid
  have hw7 := hw6.mono xA.hid
  have hk7 := hk6.mono xA.hid
  have x7 := x6.trans xA
  clear h1 h2 h3 hM e1 e2 e3 s1 s2 s3 sM m1 m2 m3 nM hvn b7 B6 sA xA T6 N6 hw6 hk6 x6 q1 q2 q3 M
  refine ⟨pn, _, rfl, SqT.of en, rfl, _, _, rfl, _, _, rfl, rfl, ?_⟩
  dsimp only [List.set]
  clear en pn
  -- the lot
  obtain ⟨⟨la, lb⟩, pg, sz, sp6, ⟨z1, z2⟩, z3, z4⟩ := abs_facts _ hab
  have G := abs_good _ hab
  dsimp only at la lb pg sz sp6 z1 z2 z3 z4 G
  refine ⟨⟨_, rfl⟩, _, rfl, _, _, rfl, rfl, z1, _, _, rfl, rfl, z2, _, rfl, _, _, rfl, rfl, z3, _, _, rfl, rfl, z4, by show 3 ≤ sizeLine; decide, fun pl hpl => ?_⟩
  have s8 := same_new (o := .lst [V.str "hands 1", .str (("work " : Str) ++ tb ++ " 1/2"), .str (("work " : Str) ++ ta ++ " 1/3")]) hpl
  refine ⟨"\n", pl, ["hands 1", (("work " : Str) ++ tb) ++ " 1/2", (("work " : Str) ++ ta) ++ " 1/3"], rfl, rfl, .inl (SqL.of upd_same), sz, ?_⟩
  rw [pg]
  intro x dx hx hdx hnx
  refine ⟨x, dx, 1, jsAB ta tb, rfl, upd_same, by decide, by decide, G, by show 0 < 2; decide, by show 2 ≤ 6; decide, fun H8 b8 L8 => ⟨rfl, ?_⟩⟩
  have s78 := s8.trans (lot_same b8 hx hdx)
  have B9 := B7.on s78
  obtain ⟨y1, y2, y3, eB9⟩ := id B9
  have S9 : St34 K C b x 1 (jsAB ta tb) vo H8 := ⟨B9, (L8.hide eB9).ext hid_hid2, N7.mono (hid2_same (b := b) s78)⟩
  have T9 := T7.ext s78
  have hw9 := hw7.mono (hid2_same (b := b) s78)
  have hk9 := hk7.mono (hid2_same (b := b) s78)
  have x9 := x7.trans (Ext2.same s78)
  clear eB9 y1 y2 y3 B9 s78 L8 b8 hx hdx hnx s8 hpl T7 N7 hw7 hk7 x7 B7 z1 z2 z3 z4 sz
  have l0 : 0 < (jsAB ta tb).length := by show 0 < 2; decide
  have l6 : (jsAB ta tb).length ≤ 6 := by show 2 ≤ 6; decide
  have hG : ∀ n' js', (some (1, jsAB ta tb) : Option (Nat × List Job)) = some (n', js') → Good 16 js' ∧ 0 < js'.length ∧ js'.length ≤ 6 ∧ spanN js' ≤ 1000000 := fun n' js' e => by cases e; exact ⟨G, l0, l6, by rw [sp6]; decide⟩
  have hG2 : ∀ n' js', (some (1, jsAB ta tb) : Option (Nat × List Job)) = some (n', js') → 0 < js'.length ∧ js'.length ≤ 6 := fun n' js' e => ⟨(hG n' js' e).2.1, (hG n' js' e).2.2.1⟩
  have sn : ∀ {α : Type} {y : α}, some y ≠ none := fun z => by cases z
  have lw0 : latesWrong (jsAB ta tb) (some (.tuple [])) = none := rfl
  dsimp only [List.set]
  -- five that are told
  refine ⟨T9, fun H1 y1 T1 => caught_by ⟨_, rfl, _, rfl, _, rfl, run_told (o := none) (ro := none) (od := some .none) (k := k) EL ER EI EN ((S9.N.mono hid2_sub).ext y1) ((hw9.mono hid2_sub).ext y1) .non ((hk9.mono hid2_sub).ext y1) (fun _ _ z => by cases z) ("NotALot", vo) (.inl ⟨rfl, rfl⟩) (fun l1 H2 s2 g1 => ⟨by show 1 ≤ sizeLine; decide, fun lt hlt => ?_⟩)⟩⟩
  refine at_heap2 (fun Hx => ∃ xs, Told Tb H8 Hx lt xs [(("NotALot" : Str), vo)]) ⟨_, Told.first y1 T1 s2 g1 hlt⟩ ?_
  clear hlt g1 s2 y1 T1 H1 H2
  rintro H3 ⟨xs, P3⟩
  dsimp only [List.set]
  refine ⟨_, rfl, .inl ⟨rfl, _, SqL.of P3.l⟩, P3.T, fun H1 y1 T1 => caught_by ⟨_, rfl, _, rfl, _, rfl, run_told (o := some (1, jsAB ta tb)) (ro := none) (od := some .none) (k := k) EL ER EI EN ⟨x, rfl, (S9.L.mono hid2_sub).ext (P3.x.trans y1)⟩ ((hw9.mono hid2_sub).ext (P3.x.trans y1)) .non ((hk9.mono hid2_sub).ext (P3.x.trans y1)) hG ("InvalidRule", vw) (.inr (.inl ⟨sn, rfl, rfl⟩)) (fun l1 H2 s2 g1 => ?_)⟩⟩
  refine ⟨lt, _, _, rfl, rfl, s2 _ _ (y1 _ _ P3.l fun _ z => by cases z), small1000 (by rw [P3.ps.length]; show 1 ≤ 1000; decide), ?_⟩
  refine at_heap (fun Hx => ∃ xs, Told Tb H8 Hx lt xs [(("NotALot" : Str), vo), (("InvalidRule" : Str), vw)]) ⟨_, P3.next (w := (("InvalidRule" : Str), vw)) y1 T1 s2 g1⟩ ?_
  clear g1 s2 y1 T1 H1 H2 P3 H3 xs
  rintro H3 ⟨xs, P3⟩
  refine ⟨_, rfl, .inl ⟨rfl, _, SqL.of P3.l⟩, P3.T, fun H1 y1 T1 => caught_by ⟨_, rfl, by show 0 ≤ sizeLine; decide, fun pe hpe => ⟨_, rfl, _, rfl, rfl, run_told (o := some (1, jsAB ta tb)) (ro := some rn) (od := some (.tuple [])) (k := k) EL ER EI EN ⟨x, rfl, ((S9.L.mono hid2_sub).ext (P3.x.trans y1)).mono (same_new hpe)⟩ ⟨rw0, rfl, hrw⟩ (Dp.tup (SqT.of upd_same) .nil) (((hk9.mono hid2_sub).ext (P3.x.trans y1)).mono (same_new hpe)) hG ("InvalidNumber", vl) (.inr (.inr (.inr ⟨sn, sn, fun _ _ e => (by cases e; exact lw0), hin, rfl⟩))) (fun l1 H2 t2 g1 => ?_)⟩⟩⟩
  have s2 := (same_new (o := .tup []) hpe).trans t2
  refine ⟨lt, _, _, rfl, rfl, s2 _ _ (y1 _ _ P3.l fun _ z => by cases z), small1000 (by rw [P3.ps.length]; show 2 ≤ 1000; decide), ?_⟩
  refine at_heap (fun Hx => ∃ xs, Told Tb H8 Hx lt xs [(("NotALot" : Str), vo), (("InvalidRule" : Str), vw), (("InvalidNumber" : Str), vl)]) ⟨_, P3.next (w := (("InvalidNumber" : Str), vl)) y1 T1 s2 g1⟩ ?_
  clear g1 s2 t2 hpe y1 T1 H2 H1 P3 H3 xs
  rintro H3 ⟨xs, P3⟩
  refine ⟨_, rfl, .inl ⟨rfl, _, SqL.of P3.l⟩, P3.T, fun H1 y1 T1 => caught_by ⟨_, rfl, _, rfl, worst_told (o := none) (ro := none) EL ER EY ((S9.N.mono hid2_sub).ext (P3.x.trans y1)) ((hw9.mono hid2_sub).ext (P3.x.trans y1)) (fun _ _ z => by cases z) ("NotALot", vo) (.inl ⟨rfl, rfl⟩) (fun l1 H2 s2 g1 => ?_)⟩⟩
  refine ⟨lt, _, _, rfl, rfl, s2 _ _ (y1 _ _ P3.l fun _ z => by cases z), small1000 (by rw [P3.ps.length]; show 3 ≤ 1000; decide), ?_⟩
  refine at_heap (fun Hx => ∃ xs, Told Tb H8 Hx lt xs [(("NotALot" : Str), vo), (("InvalidRule" : Str), vw), (("InvalidNumber" : Str), vl), (("NotALot" : Str), vo)]) ⟨_, P3.next (w := (("NotALot" : Str), vo)) y1 T1 s2 g1⟩ ?_
  clear g1 s2 y1 T1 H1 H2 P3 H3 xs
  rintro H3 ⟨xs, P3⟩
  refine ⟨_, rfl, .inl ⟨rfl, _, SqL.of P3.l⟩, P3.T, fun H1 y1 T1 => caught_by ⟨_, rfl, _, rfl, rfl, worst_told (o := some (1, jsAB ta tb)) (ro := none) EL ER EY ⟨x, rfl, (S9.L.mono hid2_sub).ext (P3.x.trans y1)⟩ ((hw9.mono hid2_sub).ext (P3.x.trans y1)) hG2 ("InvalidRule", vw) (.inr (.inl ⟨sn, rfl, rfl⟩)) (fun l1 H2 s2 g1 => ?_)⟩⟩
  refine ⟨lt, _, _, rfl, rfl, s2 _ _ (y1 _ _ P3.l fun _ z => by cases z), small1000 (by rw [P3.ps.length]; show 4 ≤ 1000; decide), ?_⟩
  refine at_heap (fun Hx => ∃ xs, Told Tb H8 Hx lt xs [(("NotALot" : Str), vo), (("InvalidRule" : Str), vw), (("InvalidNumber" : Str), vl), (("NotALot" : Str), vo), (("InvalidRule" : Str), vw)]) ⟨_, P3.next (w := (("InvalidRule" : Str), vw)) y1 T1 s2 g1⟩ ?_
  clear g1 s2 y1 T1 H1 H2 P3 H3 xs
  rintro H3 ⟨xs, P3⟩
  -- what is due
  refine ⟨_, rfl, by show 2 ≤ sizeLine; decide, fun d1 h1 => ⟨_, rfl, by show 2 ≤ sizeLine; decide, fun d2 h2 => ⟨by show 2 ≤ sizeLine; decide, fun dl hl => ?_⟩⟩⟩
  have s1 := same_new (o := .tup [V.str "NotALot", vo]) h1
  have s2 := same_new (o := .tup [V.str "InvalidRule", vw]) h2
  have s3 := same_new (o := .lst [V.ref d1, .ref d2]) hl
  have s13 := (s1.trans s2).trans s3
  have F : ∃ He, He = (upd (upd (upd H3 d1 (.tup [V.str "NotALot", vo])) d2 (.tup [V.str "InvalidRule", vw])) dl (.lst [V.ref d1, .ref d2])) ∧ Same H3 He ∧ He d1 = some (.tup [V.str "NotALot", vo]) ∧ He d2 = some (.tup [V.str "InvalidRule", vw]) ∧ He dl = some (.lst [V.ref d1, .ref d2]) :=
    ⟨_, rfl, s13, s3 _ _ (s2 _ _ upd_same), s3 _ _ upd_same, upd_same⟩
  obtain ⟨He, eH, sE, f1, f2, f3⟩ := F
  show tSeq _ _ _ _ (upd (upd (upd H3 d1 (.tup [V.str "NotALot", vo])) d2 (.tup [V.str "InvalidRule", vw])) dl (.lst [V.ref d1, .ref d2]))
  rw [← eH]
  clear eH h1 h2 hl s1 s2 s3 s13
  refine ⟨_, rfl, _, rfl, _, rfl, by show 2 ≤ sizeLine; decide, fun d3 h3 => ⟨by show 1 ≤ sizeLine; decide, fun dm hm => ?_⟩⟩
  have s1 := same_new (o := .tup [V.str "InvalidNumber", vl]) h3
  have s2 := same_new (o := .lst [V.ref d3]) hm
  refine ⟨dl, dm, _, _, rfl, rfl, s2 _ _ (s1 _ _ f3), upd_same, (by show 2 + 1 ≤ sizeLine; decide), fun c1 hc1 => ?_⟩
  have s4 := same_new (o := .lst ([V.ref d1, .ref d2] ++ [V.ref d3])) hc1
  refine ⟨_, rfl, c1, dl, _, _, rfl, rfl, upd_same, s4 _ _ (s2 _ _ (s1 _ _ f3)), (by show 3 + 2 ≤ sizeLine; decide), fun c2 hc2 => ?_⟩
  have s5 := same_new (o := .lst ([V.ref d1, .ref d2] ++ [V.ref d3] ++ [V.ref d1, .ref d2])) hc2
  have s15 := ((s1.trans s2).trans s4).trans s5
  have g1 := s15 _ _ f1
  have g2 := s15 _ _ f2
  have g3 := ((s2.trans s4).trans s5) _ _ (show (upd He d3 (.tup [V.str "InvalidNumber", vl])) d3 = some (.tup [V.str "InvalidNumber", vl]) from upd_same)
  have gl := s15 _ _ (sE _ _ P3.l)
  have gp := P3.ps.mono (sE.trans s15)
  refine ⟨⟨lt, c2, xs, _, 2, rfl, rfl, by decide, .inr ⟨SqL.of gl, SqL.of upd_same⟩, PairsV.eqs gp (.cons ⟨d1, rfl, g1⟩ (.cons ⟨d2, rfl, g2⟩ (.cons ⟨d3, rfl, g3⟩ (.cons ⟨d1, rfl, g1⟩ (.cons ⟨d2, rfl, g2⟩ .nil))))) fun w hw => ?_⟩, false, rfl, iteF ?_⟩
  · rcases List.mem_cons.mp hw with rfl | hw
    · exact fl
    rcases List.mem_cons.mp hw with rfl | hw
    · exact flW
    rcases List.mem_cons.mp hw with rfl | hw
    · exact flL
    rcases List.mem_cons.mp hw with rfl | hw
    · exact fl
    rcases List.mem_cons.mp hw with rfl | hw
    · exact flW
    · cases hw
  have xF : ExtN H8 _ := P3.x.trans (ExtN.of (sE.trans s15))
  have TF := (P3.T.ext sE).ext s15
  refine at_heap (fun Hx => ExtN H8 Hx ∧ Tabs Tb Hx) ⟨xF, TF⟩ ?_
  clear TF xF gp gl g1 g2 g3 s15 s5 hc2 s4 hc1 s1 s2 hm h3 f1 f2 f3 sE He P3 H3 xs
  rintro H3 ⟨xF, TF⟩
  have S10 := S9.ext xF
  have hk10 := hk9.mono (hid2_ext (b := b) xF)
  have x10 := x9.trans (Ext2.ext xF)
  clear xF S9 T9 hk9 hw9 x9 H8 fl flW N
  -- what are no lates
  refine ⟨_, rfl, _, rfl, ta, tb, rfl, by omega, fun pw ws Hw sw ew Dw => ⟨pw, rfl, ⟨_, SqL.of ew⟩, for_list (K := K) (a := pw) (xs := ws) (fun i σ Hm => ExtN Hw Hm ∧ Tabs Tb Hm ∧ ∃ v10 v11, σ = [some (.ref b), some vo, some (.str rw0), some vw, some vl, some (.str ta), some (.str tb), some (.ref x), some (.ref lt), some (.ref dl), v10, v11, none, none, none]) ⟨ExtN.refl _, TF.ext sw, _, _, rfl⟩ (fun _ _ _ _ z => sql_ext (SqL.of ew) z.1) ?_ ?_⟩⟩
  · rintro i y σ Hm hy ⟨xm, Tm, v10, v11, rfl⟩
    obtain ⟨d, hd, hv⟩ := Dw.get hy
    obtain ⟨qq, hqq, rfl⟩ : ∃ qq, qq ∈ wrongs ta tb ∧ d = wrongD qq := by
      rw [List.getElem?_map] at hd
      cases z : (wrongs ta tb)[i]? with
      | none => rw [z] at hd; cases hd
      | some qq => rw [z] at hd; exact ⟨qq, List.mem_of_getElem? z, (Option.some.inj hd).symm⟩
    have bad := wrongs_bad _ hab _ hqq
    dsimp only at bad
    obtain ⟨thing, due⟩ := qq
    obtain ⟨py, us, rfl, hS, hA⟩ := (show Dp K Hm y (.tuple [thing, dueP due]) from dp_ext xm _ _ hv).tuple
    obtain ⟨u1, u2, rfl, hu1, hu2⟩ := hA.two
    have e2 : u2 = dueQ due := by
      cases due with
      | none => cases hu2; rfl
      | some k => exact hu2.int_eq
    subst e2
    have fd : Flat (dueQ due) := by
      cases due with
      | none => exact .inr (.inl rfl)
      | some k => exact .inr (.inr (.inr (.inl ⟨_, rfl⟩)))
    refine ⟨py, _, rfl, hS, rfl, _, _, rfl, _, _, rfl, rfl, ?_⟩
    dsimp only [List.set]
    have xw : ExtN H3 Hm := (ExtN.of sw).trans xm
    refine ⟨Tm, fun H1 y1 T1 => caught_by ⟨_, rfl, _, rfl, _, rfl, _, rfl, run_told (o := some (1, jsAB ta tb)) (ro := some rn) (od := some thing) (k := k) EL ER EI EN ⟨x, rfl, (S10.L.mono hid2_sub).ext (xw.trans y1)⟩ ⟨rw0, rfl, hrw⟩ (dp_ext y1 _ _ hu1) ((hk10.mono hid2_sub).ext (xw.trans y1)) hG ("InvalidLates", dueQ due) (.inr (.inr (.inl ⟨sn, sn, fun _ _ e => (by cases e; exact ⟨_, bad, rfl⟩)⟩))) (fun l1 H2 s2 g1 => ?_)⟩⟩
    refine ⟨_, rfl, by show 2 ≤ sizeLine; decide, fun p1 hp1 => ?_⟩
    have sB := same_new (o := .tup [V.str "InvalidLates", dueQ due]) hp1
    refine ⟨⟨l1, p1, _, _, 1, rfl, rfl, by decide, .inl ⟨SqT.of (sB _ _ g1), SqT.of upd_same⟩, .cons (.str _) (.cons (EqV.refl fd) .nil)⟩, false, rfl, iteF ?_⟩
    exact ⟨(xm.trans y1).trans (ExtN.of (s2.trans sB)), (T1.ext s2).ext sB, _, _, rfl⟩
  rintro σ Hm ⟨xm, Tm, v10, v11, rfl⟩
  have xF : ExtN H3 Hm := (ExtN.of sw).trans xm
  have S11 := S10.ext xF
  have x11 := x10.trans (Ext2.ext xF)
  clear xF xm Dw ew sw S10 x10 TF hk10
  have am : ta ∈ (jsAB ta tb).map (·.1) := List.mem_cons_of_mem _ List.mem_cons_self
  -- two hundred lates
  refine ⟨Tm, fun H1 y1 T1 => caught_by ⟨_, rfl, _, rfl, 1, 201, rfl, ⟨by decide, by decide, by decide, by decide⟩, fun pl hpl => ?_⟩⟩
  have fpl := hpl
  refine lc_range (lo := 1) (n := ((201 : Int) - 1).toNat) (fun i Hx => Same H1 Hx ∧ ∃ ws, Hx pl = some (.lst ws) ∧ ws.length = i ∧ DpAll K (hid pl Hx) ws ((List.range i).map fun k : Nat => lateRow (ta, (k : Int) + 1, 1))) ⟨same_new hpl, [], upd_same, rfl, .nil⟩ ?_ ?_
  · rintro i Hx hi ⟨sx, ws, ew, lw, Dw⟩
    have hi : i < 200 := hi
    refine ⟨rfl, yesIf ⟨_, rfl, _, rfl, by show 3 ≤ sizeLine; decide, fun tp htp => ?_⟩⟩
    have st := same_new (o := .tup [V.str ta, .int (1 + (i : Int)), .int 1]) htp
    have ntp : tp ≠ pl := fun z => by rw [z, ew] at htp; cases htp
    refine ⟨ws, st _ _ ew, small1000 (by omega), Same.app fpl (sx.trans st), _, upd_same, by rw [List.length_append, lw]; rfl, ?_⟩
    rw [List.range_succ, List.map_append]
    refine ((Dw.mono (hid_same (b := pl) st)).mono hid_put).append (.cons (.tup (SqT.of ((hid_ne ntp).trans (by rw [upd_ne ntp]; exact upd_same))) (.cons (.str _) (.cons ?_ (.cons (.int _) .nil)))) .nil)
    show Dp K _ (V.int (1 + (i : Int))) (.int ((i : Int) + 1))
    rw [show (1 : Int) + (i : Int) = (i : Int) + 1 by omega]
    exact .int _
  rintro H2 ⟨s2, ws, ew, lw, Dw⟩
  have Dw2 : DpAll K H2 ws ((rowsA ta).map lateRow) := by
    unfold rowsA
    rw [List.map_map]
    exact Dw.mono hid_sub
  refine ⟨pl, ws, rfl, .inl ⟨SqL.of ew, fun pt hpt => ?_⟩⟩
  have s3 := same_new (o := .tup ws) hpt
  refine run_callX (rows := rowsA ta) (f := 3) (rowsA_ok am) ((((S11.L.mono hid2_sub).ext y1).mono s2).mono s3) G l0 l6 (by rw [sp6]; decide) hrw (.tup (SqT.of upd_same) (Dw2.mono s3)) (by decide) (fun p H3 s33 l H4 s4 e4 => ?_)
  refine ⟨l, _, 0, .str "let", rfl, rfl, SqT.of e4, atI_nat (j := 0) rfl, rfl, _, rfl, iteF ?_⟩
  have s24 := ((s2.trans s3).trans s33).trans s4
  refine at_heap (fun Hx => ExtN Hm Hx ∧ Tabs Tb Hx) ⟨y1.trans (ExtN.of s24), T1.ext s24⟩ ?_
  clear s24 e4 s4 s33 s3 hpt Dw2 Dw ew lw s2 fpl hpl H4 H3 T1 y1 H1 H2
  rintro H5 ⟨y5, T5⟩
  have x5 := x11.trans (Ext2.ext y5)
  clear S11 x11 y5 Tm Hm am hG hG2 l0 l6 lw0
  -- the texts of two lots
  refine ⟨by show 1 ≤ sizeLine; decide, fun r1 hr1 => ⟨by show 4 ≤ sizeLine; decide, fun r2 hr2 => ⟨r2, rfl, ⟨_, SqL.of upd_same⟩, fun pm hpm => ?_⟩⟩⟩
  have t1 := same_new (o := .lst [V.str "hands 2"]) hr1
  have t2 := same_new (o := .lst [V.str "v", .str "w", .str "x", .str "y"]) hr2
  have tl : ∀ t ∈ (["v", "w", "x", "y"] : List Str), ("work " : Str).length + t.length ≤ sizeLine ∧ (("work " : Str) ++ t).length + (" 1/7" : Str).length ≤ sizeLine := by decide +kernel
  refine lc_it (L2.walk_list (K := K) (a := r2) (xs := (["v", "w", "x", "y"] : List Str).map V.str)) (fun i Hx => Same (upd (upd H5 r1 (.lst [V.str "hands 2"])) r2 (.lst [V.str "v", .str "w", .str "x", .str "y"])) Hx ∧ Hx pm = some (.lst ((((["v", "w", "x", "y"] : List Str).take i).map fun t => (("work " : Str) ++ t) ++ " 1/7").map V.str))) ⟨same_new hpm, upd_same⟩ (fun i Hx _ z => SqL.of (z.1 _ _ upd_same)) ?_ ?_
  · rintro i y Hx Hx' hi ⟨sx, ex⟩ ⟨e9, hy⟩
    cases e9
    obtain ⟨t, ht, rfl⟩ : ∃ t, (["v", "w", "x", "y"] : List Str)[i]? = some t ∧ V.str t = y := by
      rw [List.getElem?_map] at hy
      cases z : (["v", "w", "x", "y"] : List Str)[i]? with
      | none => rw [z] at hy; cases hy
      | some t => rw [z] at hy; exact ⟨t, rfl, Option.some.inj hy⟩
    obtain ⟨l1, l2⟩ := tl t (List.mem_of_getElem? ht)
    refine ⟨rfl, yesIf ⟨_, rfl, _, _, rfl, rfl, l1, _, _, rfl, rfl, l2, _, ex, small1000 (by rw [List.length_map, List.length_map, List.length_take]; have h4 : i < 4 := hi; omega), Same.app hpm sx, ?_⟩⟩
    rw [upd_same, List.take_add_one, ht, List.map_append, List.map_append]; rfl
  rintro H6 ⟨s6, e6⟩
  refine ⟨r1, pm, _, _, rfl, rfl, s6 _ _ (t2 _ _ upd_same), e6, (by show 1 + 4 ≤ sizeLine; decide), fun p14 h14 => ?_⟩
  have s7 := same_new (o := .lst (sevT.map V.str)) h14
  have e14 : (upd H6 p14 (.lst (sevT.map V.str))) p14 = some (.lst (sevT.map V.str)) := upd_same
  have sA := ((t1.trans t2).trans s6).trans s7
  show gName _ _ _ (upd H6 p14 (.lst (sevT.map V.str))) _
  revert e14 sA
  generalize upd H6 p14 (.lst (sevT.map V.str)) = H7
  intro e14 sA
  have T7 := T5.ext sA
  have x7 := x5.trans (Ext2.same sA)
  clear sA s7 h14 e6 s6 tl t2 t1 hpm hr2 hr1 T5 x5 H6
  obtain ⟨pg4, pg5, sz4, sz5⟩ := sev_facts
  dsimp only [List.set]
  have hG5 : ∀ n' js', (some (2, fivJ) : Option (Nat × List Job)) = some (n', js') → 0 < js'.length ∧ js'.length ≤ 6 := fun n' js' e => by cases e; decide
  have hG4 : ∀ n' js', (some (2, sevJ) : Option (Nat × List Job)) = some (n', js') → 0 < js'.length ∧ js'.length ≤ 6 := fun n' js' e => by cases e; decide
  refine ⟨T7, fun H1 y1 T1 => caught_by ⟨⟨_, rfl⟩, _, rfl, by show 1 ≤ sizeLine; decide, fun z1 hz1 => ⟨p14, z1, _, _, rfl, rfl, (same_new hz1) _ _ (y1 _ _ e14 fun _ z => by cases z), upd_same, (by show 5 + 1 ≤ sizeLine; decide), fun z2 hz2 => ?_⟩⟩⟩
  have s1 := same_new (o := .lst [V.str "work z 1/2"]) hz1
  have s2 := same_new (o := .lst (sevT.map V.str ++ [V.str "work z 1/2"])) hz2
  refine ⟨"\n", z2, sevT ++ (["work z 1/2"] : List Str), rfl, rfl, .inl (SqL.of upd_same), sz5, ?_⟩
  rw [pg5]
  intro xw dw hxw hdw hnw
  refine ⟨xw, dw, 2, fivJ, rfl, upd_same, by decide, by decide, fiv_good, by decide, by decide, fun H8 b8 L8 => ⟨rfl, ?_⟩⟩
  have s3 := (s1.trans s2).trans (lot_same b8 hxw hdw)
  refine ⟨_, rfl, worst_told (o := some (2, fivJ)) (ro := some rn) EL ER EY ⟨xw, rfl, L8⟩ ⟨rw0, rfl, hrw⟩ hG5 ("TooMany", .int 4) (.inr (.inr (.inl ⟨sn, sn, fun _ _ e => (by cases e; decide), rfl⟩))) (fun l1 H2 s22 g1 => ⟨by show 1 ≤ sizeLine; decide, fun lu hlu => ?_⟩)⟩
  refine at_heap2 (fun Hx => ∃ xs, Told Tb H7 Hx lu xs [(("TooMany" : Str), V.int 4)]) ⟨_, Told.first y1 T1 (s3.trans s22) g1 hlu⟩ ?_
  clear hlu g1 s22 s3 b8 L8 hxw hdw hnw s2 s1 hz2 hz1 y1 T1 H8 H2 H1 z1 z2 xw dw
  rintro H3 ⟨xs, P3⟩
  dsimp only [List.set]
  refine ⟨_, rfl, .inl ⟨rfl, _, SqL.of P3.l⟩, P3.T, fun H1 y1 T1 => caught_by ⟨⟨_, rfl⟩, _, rfl, "\n", p14, sevT, rfl, rfl, .inl (SqL.of ((P3.x.trans y1) _ _ e14 fun _ z => by cases z)), sz4, ?_⟩⟩
  rw [pg4]
  intro xw dw hxw hdw hnw
  refine ⟨xw, dw, 2, sevJ, rfl, upd_same, by decide, by decide, sev_good, by decide, by decide, fun H8 b8 L8 => ⟨rfl, ?_⟩⟩
  have s3 := lot_same b8 hxw hdw
  refine ⟨_, rfl, worst_told (o := some (2, sevJ)) (ro := some rn) EL ER EY ⟨xw, rfl, L8⟩ ⟨rw0, rfl, hrw⟩ hG4 ("TooMany", .int 6) (.inr (.inr (.inr ⟨sn, sn, fun _ _ e => (by cases e; decide), rfl⟩))) (fun l1 H2 s22 g1 => ?_)⟩
  have s4 := s3.trans s22
  refine ⟨lu, _, _, rfl, rfl, s4 _ _ (y1 _ _ P3.l fun _ z => by cases z), small1000 (by rw [P3.ps.length]; show 1 ≤ 1000; decide), ?_⟩
  refine at_heap (fun Hx => ∃ xs, Told Tb H7 Hx lu xs [(("TooMany" : Str), V.int 4), (("TooMany" : Str), V.int 6)]) ⟨_, P3.next (w := (("TooMany" : Str), V.int 6)) y1 T1 s4 g1⟩ ?_
  clear g1 s4 s22 s3 b8 L8 hxw hdw hnw y1 T1 H8 H2 H1 xw dw P3 H3 xs
  rintro H3 ⟨xs, P3⟩
  refine ⟨_, rfl, by show 2 ≤ sizeLine; decide, fun a1 h1 => ⟨by show 2 ≤ sizeLine; decide, fun a2 h2 => ⟨by show 2 ≤ sizeLine; decide, fun a3 h3 => ?_⟩⟩⟩
  have s1 := same_new (o := .tup [V.str "TooMany", .int 4]) h1
  have s2 := same_new (o := .tup [V.str "TooMany", .int 6]) h2
  have s3 := same_new (o := .lst [V.ref a1, .ref a2]) h3
  have s13 := (s1.trans s2).trans s3
  refine ⟨⟨lu, a3, xs, _, 2, rfl, rfl, by decide, .inr ⟨SqL.of (s13 _ _ P3.l), SqL.of upd_same⟩, PairsV.eqs (P3.ps.mono s13) (.cons ⟨a1, rfl, s3 _ _ (s2 _ _ upd_same)⟩ (.cons ⟨a2, rfl, s3 _ _ upd_same⟩ .nil)) fun w hw => ?_⟩, ?_⟩
  · rcases List.mem_cons.mp hw with rfl | hw
    · exact .inr (.inr (.inr (.inl ⟨_, rfl⟩)))
    rcases List.mem_cons.mp hw with rfl | hw
    · exact .inr (.inr (.inr (.inl ⟨_, rfl⟩)))
    · cases hw
  · exact q _ (x7.trans (Ext2.ext (P3.x.trans (ExtN.of s13)))) (P3.T.ext s13)
end
end Ts
namespace Ts
open PySem PySem.Spec PyProof.Rows L2 L2H LamX
section
variable {P : Program} {w : World} {K : PySem.W.Frag} {mg : Str → Option Value} {base : Heap}
theorem ok_lawJT {f : Addr} {fd : FuncData} {k : Nat} {T : List (Addr × Str)} (F : Fun K "law" "law" s_law f fd) (B : Blt0 mg) (h__law_jar : Has P w K mg base 2 "_law_jar" ["_law_cells", "_law_spot"] (spBasin K)) (h__law_right : HasG P w K mg base (k + 3) "_law_right" ["_law_jar_here"] (spRightT T)) :
    FnG P w K mg base (k + 4) f fd ["_law_cells"] (spLawT K T) := by
  refine fun_g F sc_law (fun vs H Q E h => ?_) (fun cdv A outer s H vs Q hg0 hr h => ?_)
  · obtain ⟨a, ns, rfl, _⟩ := h; rfl
  obtain ⟨a, ns, rfl, hS, hl, hT, q⟩ := h
  have hTb : Tabs T H := fun p hp => TabS.nil (hT p hp)
  have hg : (A.deeper (envOfC "law" (defScope s_law) s.heap.objs.size f cdv)).guards = some [] := hg0
  refine ⟨_, (pss_one (ps_ret (pe_callB (call_allB rfl) (by rfl) B.zall (by decide +kernel) (pa_cons (pe_lc (own := [("_law_k", 1)]) rfl sc_law.nd (pi_range1 (by rfl) B.zrange (pa_cons (pe_callB (call_max2 rfl) (by rfl) B.zmax (by decide +kernel) (pa_cons pe_int (pa_cons (pe_callB (call_min2 rfl) (by rfl) B.zmin (by decide +kernel) (pa_cons (pe_callB call_len_seq (by rfl) B.zlen (by decide +kernel) (pa_cons (pv 0) pa_nil)) (pa_cons pe_int pa_nil))) pa_nil))) pa_nil)) (blkOk_by (N := ["_law_cells", "_law_k"]) (sc := defScope s_law) (own := [("_law_k", 1)]) (by decide +kernel)) (fun _ _ _ _ _ => (pg_name (i := 1) sc_law.nd rfl (.inl rfl) (.inr rfl))) (fun _ _ _ _ _ => pts_nil) (fun _ _ _ _ _ => (pe_g h__law_right hg (hr.mono (by omega)) (pa_cons (pe_h h__law_jar (hr.mono (by omega)) (pa_cons (pv 0) (pa_cons (pv 1) pa_nil))) pa_nil)))) pa_nil)))), ?_⟩
  refine ⟨_, rfl, a, _, rfl, .inl hS, _, _, rfl, _, _, rfl, ?_⟩
  have em : (if (if ((ns.map V.int).length : Int) > (5 : Int) then (5 : Int) else ((ns.map V.int).length : Int)) > (2 : Int) then (if ((ns.map V.int).length : Int) > (5 : Int) then (5 : Int) else ((ns.map V.int).length : Int)) else 2) = ((max 2 (min ns.length 5) : Nat) : Int) := by
    rw [List.length_map]
    split <;> split <;> omega
  refine ⟨_, rfl, ?_⟩
  show _ ∧ _
  rw [em]
  refine ⟨by omega, by omega, fun pl hpl => ?_⟩
  have Tp : Tabs T (upd H pl (.lst [])) := hTb.ext (same_new hpl)
  refine lc_range (lo := 0) (n := (((max 2 (min ns.length 5) : Nat) : Int)).toNat) (fun i Hm => ExtN H Hm ∧ Tabs T Hm ∧ Hm pl = some (.lst ((List.replicate i true).map V.bl))) ⟨fun c o e _ => same_new hpl c o e, Tp, upd_same⟩ ?_ ?_
  · rintro i Hm hi ⟨sm, tm, em⟩
    have ec : (0 : Int) + (i : Int) = (i : Int) := by omega
    rw [ec]
    refine ⟨rfl, yesIf ⟨_, rfl, _, rfl, a, ns, i, rfl, sql_ext hS (fun c o e n => sm c o e n), hl, by omega, fun b H9 hb s9 hB => ⟨b, rfl, hB, tm.ext s9, fun Ha x9 T9 => ?_⟩⟩⟩
    have sa : ExtN Hm Ha := fun c o e n => x9 _ _ (ne_of_none e hb) n (s9 _ _ e)
    refine ⟨_, sa _ _ em (fun ps z => by cases z), by rw [List.length_map, List.length_replicate]; exact small1000 (by omega), fun c o e n => ?_, ?_, ?_⟩
    · rw [upd_ne (ne_of_none e hpl)]; exact sa _ _ (sm c o e n) n
    · exact tabs_lst T9 (sa _ _ em (fun ps z => by cases z)) But.set
    · rw [upd_same, List.replicate_succ', List.map_append]; rfl
  · rintro Hm ⟨sm, tm, em⟩
    refine ⟨pl, _, rfl, SqL.of em, ?_⟩
    have e : (List.replicate (((max 2 (min ns.length 5) : Nat) : Int)).toNat true).all id = true := List.all_eq_true.mpr fun x hx => by rw [List.eq_of_mem_replicate hx]; rfl
    rw [e]
    exact q Hm
end
end Ts
namespace Ts
open PySem PySem.Spec PyProof.Rows L2 L2H LamX
theorem all_mk {l : PySem.W.OpenLaw} {w : World} {K : PySem.W.Frag} {h : Heap} {mg : Str → Option Value} {fa C : Addr} (X : K.In h) (G : h.Ns mainGlobals mg) (hfa : mg "law" = some (.ref fa))
    {f0 : Addr} {od0 an0 : Option Addr} {sl0 : Array (Option Value)} {oc0 kV0 dc0 pm0 cd0 ct0 : Value}
    {f1 : Addr} {od1 an1 : Option Addr} {sl1 : Array (Option Value)} {oc1 kV1 dc1 pm1 cd1 ct1 : Value}
    {f2 : Addr} {od2 an2 : Option Addr} {sl2 : Array (Option Value)} {oc2 kV2 dc2 pm2 cd2 ct2 : Value}
    {f3 : Addr} {od3 an3 : Option Addr} {sl3 : Array (Option Value)} {oc3 kV3 dc3 pm3 cd3 ct3 : Value}
    {f4 : Addr} {od4 an4 : Option Addr} {sl4 : Array (Option Value)} {oc4 kV4 dc4 pm4 cd4 ct4 : Value}
    {f5 : Addr} {od5 an5 : Option Addr} {sl5 : Array (Option Value)} {oc5 kV5 dc5 pm5 cd5 ct5 : Value}
    {f6 : Addr} {od6 an6 : Option Addr} {sl6 : Array (Option Value)} {oc6 kV6 dc6 pm6 cd6 ct6 : Value}
    {f7 : Addr} {od7 an7 : Option Addr} {sl7 : Array (Option Value)} {oc7 kV7 dc7 pm7 cd7 ct7 : Value}
    {f8 : Addr} {od8 an8 : Option Addr} {sl8 : Array (Option Value)} {oc8 kV8 dc8 pm8 cd8 ct8 : Value}
    {f9 : Addr} {od9 an9 : Option Addr} {sl9 : Array (Option Value)} {oc9 kV9 dc9 pm9 ct9 : Value} {cl9 pl9 : Addr}
    {f10 : Addr} {od10 an10 : Option Addr} {sl10 : Array (Option Value)} {oc10 kV10 dc10 pm10 cd10 ct10 : Value}
    {f11 : Addr} {od11 an11 : Option Addr} {sl11 : Array (Option Value)} {oc11 kV11 dc11 pm11 cd11 ct11 : Value}
    {f12 : Addr} {od12 an12 : Option Addr} {sl12 : Array (Option Value)} {oc12 kV12 dc12 pm12 cd12 ct12 : Value}
    {f13 : Addr} {od13 an13 : Option Addr} {sl13 : Array (Option Value)} {oc13 kV13 dc13 pm13 cd13 ct13 : Value}
    {f14 : Addr} {od14 an14 : Option Addr} {sl14 : Array (Option Value)} {oc14 kV14 dc14 pm14 cd14 ct14 : Value}
    {f15 : Addr} {od15 an15 : Option Addr} {sl15 : Array (Option Value)} {oc15 kV15 dc15 pm15 cd15 ct15 : Value}
    {f16 : Addr} {od16 an16 : Option Addr} {sl16 : Array (Option Value)} {oc16 kV16 dc16 pm16 cd16 ct16 : Value}
    {f17 : Addr} {od17 an17 : Option Addr} {sl17 : Array (Option Value)} {oc17 kV17 dc17 pm17 cd17 ct17 : Value}
    {f18 : Addr} {od18 an18 : Option Addr} {sl18 : Array (Option Value)} {oc18 kV18 dc18 pm18 cd18 ct18 : Value}
    {f19 : Addr} {od19 an19 : Option Addr} {sl19 : Array (Option Value)} {oc19 kV19 dc19 pm19 cd19 ct19 : Value}
    {f20 : Addr} {od20 an20 : Option Addr} {sl20 : Array (Option Value)} {oc20 kV20 dc20 pm20 cd20 ct20 : Value}
    {f21 : Addr} {od21 an21 : Option Addr} {sl21 : Array (Option Value)} {oc21 kV21 dc21 pm21 cd21 ct21 : Value}
    {f22 : Addr} {od22 an22 : Option Addr} {sl22 : Array (Option Value)} {oc22 kV22 dc22 pm22 cd22 ct22 : Value}
    {f23 : Addr} {od23 an23 : Option Addr} {sl23 : Array (Option Value)} {oc23 kV23 dc23 pm23 cd23 ct23 : Value}
    {f24 : Addr} {od24 an24 : Option Addr} {sl24 : Array (Option Value)} {oc24 kV24 dc24 pm24 cd24 ct24 : Value}
    {f25 : Addr} {od25 an25 : Option Addr} {sl25 : Array (Option Value)} {oc25 kV25 dc25 pm25 cd25 ct25 : Value}
    {f26 : Addr} {od26 an26 : Option Addr} {sl26 : Array (Option Value)} {oc26 kV26 dc26 pm26 cd26 ct26 : Value}
    {f27 : Addr} {od27 an27 : Option Addr} {sl27 : Array (Option Value)} {oc27 kV27 dc27 pm27 cd27 ct27 : Value}
    {f28 : Addr} {od28 an28 : Option Addr} {sl28 : Array (Option Value)} {oc28 kV28 dc28 pm28 cd28 ct28 : Value}
    {f29 : Addr} {od29 an29 : Option Addr} {sl29 : Array (Option Value)} {oc29 kV29 dc29 pm29 cd29 ct29 : Value}
    {f30 : Addr} {od30 an30 : Option Addr} {sl30 : Array (Option Value)} {oc30 kV30 dc30 pm30 cd30 ct30 : Value}
    {f31 : Addr} {od31 an31 : Option Addr} {sl31 : Array (Option Value)} {oc31 kV31 dc31 pm31 cd31 ct31 : Value}
    {f32 : Addr} {od32 an32 : Option Addr} {sl32 : Array (Option Value)} {oc32 kV32 dc32 pm32 cd32 ct32 : Value}
    {f33 : Addr} {od33 an33 : Option Addr} {sl33 : Array (Option Value)} {oc33 kV33 dc33 pm33 cd33 ct33 : Value}
    {f34 : Addr} {od34 an34 : Option Addr} {sl34 : Array (Option Value)} {oc34 kV34 dc34 pm34 cd34 ct34 : Value}
    {f35 : Addr} {od35 an35 : Option Addr} {sl35 : Array (Option Value)} {oc35 kV35 dc35 pm35 cd35 ct35 : Value}
    {f36 : Addr} {od36 an36 : Option Addr} {sl36 : Array (Option Value)} {oc36 kV36 dc36 pm36 cd36 ct36 : Value}
    {f37 : Addr} {od37 an37 : Option Addr} {sl37 : Array (Option Value)} {oc37 kV37 dc37 pm37 cd37 ct37 : Value}
    {f38 : Addr} {od38 an38 : Option Addr} {sl38 : Array (Option Value)} {oc38 kV38 dc38 pm38 cd38 ct38 : Value}
    {f39 : Addr} {od39 an39 : Option Addr} {sl39 : Array (Option Value)} {oc39 kV39 dc39 pm39 cd39 ct39 : Value}
    {f40 : Addr} {od40 an40 : Option Addr} {sl40 : Array (Option Value)} {oc40 kV40 dc40 pm40 cd40 ct40 : Value}
    {f41 : Addr} {od41 an41 : Option Addr} {sl41 : Array (Option Value)} {oc41 kV41 dc41 pm41 cd41 ct41 : Value}
    {f42 : Addr} {od42 an42 : Option Addr} {sl42 : Array (Option Value)} {oc42 kV42 dc42 pm42 cd42 ct42 : Value}
    {fI : Addr} {odI anI : Option Addr} {slI : Array (Option Value)} {ocI kVI dcI pmI cdI ctI : Value}
    {fPshares : Addr} {odPshares anPshares : Option Addr} {slPshares : Array (Option Value)} {ocPshares kVPshares dcPshares pmPshares cdPshares ctPshares : Value} {pPshares : Addr} {rePshares : List Value}
    {fPhands : Addr} {odPhands anPhands : Option Addr} {slPhands : Array (Option Value)} {ocPhands kVPhands dcPhands pmPhands cdPhands ctPhands : Value} {pPhands : Addr} {rePhands : List Value}
    {fPspan : Addr} {odPspan anPspan : Option Addr} {slPspan : Array (Option Value)} {ocPspan kVPspan dcPspan pmPspan cdPspan ctPspan : Value} {pPspan : Addr} {rePspan : List Value}
    {fPnames : Addr} {odPnames anPnames : Option Addr} {slPnames : Array (Option Value)} {ocPnames kVPnames dcPnames pmPnames cdPnames ctPnames : Value} {pPnames : Addr} {rePnames : List Value}
    {CQ : Addr}
    {fQI : Addr} {odQI anQI : Option Addr} {slQI : Array (Option Value)} {ocQI kVQI dcQI pmQI cdQI ctQI : Value}
    {fQplace_behind : Addr} {odQplace_behind anQplace_behind : Option Addr} {slQplace_behind : Array (Option Value)} {ocQplace_behind kVQplace_behind dcQplace_behind pmQplace_behind cdQplace_behind ctQplace_behind : Value}
    {AR AU : Addr} {esR : Array DictEntry} {nR : Nat}
    {e0 e1 e2 e3 e4 e5 e6 e7 e8 v0 v1 v2 : Addr}
    {fX0 : Addr} {odX0 anX0 : Option Addr} {slX0 : Array (Option Value)} {ocX0 kVX0 dcX0 pmX0 cdX0 ctX0 : Value}
    {fX2 : Addr} {odX2 anX2 : Option Addr} {slX2 : Array (Option Value)} {ocX2 kVX2 dcX2 pmX2 cdX2 ctX2 : Value}
    {fX3 : Addr} {odX3 anX3 : Option Addr} {slX3 : Array (Option Value)} {ocX3 kVX3 dcX3 pmX3 cdX3 ctX3 : Value}
    {fX6 : Addr} {odX6 anX6 : Option Addr} {slX6 : Array (Option Value)} {ocX6 kVX6 dcX6 pmX6 cdX6 ctX6 : Value}
    {fX8 : Addr} {odX8 anX8 : Option Addr} {slX8 : Array (Option Value)} {ocX8 kVX8 dcX8 pmX8 cdX8 ctX8 : Value}
    {t0 : Tok}
    {t1 : Tok}
    {t2 : Tok}
    {t3 : Tok}
    {t4 : Tok}
    {tMOST_LATES : Tok}
    {tMOST_RUN : Tok}
    {tMOST_LATE_TURN : Tok}
    {tMOST_LATE_BY : Tok}
    {tMOST_SEARCHED_WORKS : Tok}
    {tMOST_SEARCHED_PERIOD : Tok}
    (a0 : PySem.W.nsIn K mainGlobals "_law_cell" = some (some (.ref f0)))
    (l0 : K.lookup f0 = some ⟨oc0, od0, .func (PySem.W.fnOf "_law_cell" "_law_cell" (defArgs s__law_cell) (defBody s__law_cell) (defScope s__law_cell) .none kV0 dc0 pm0 an0 cd0 ct0), sl0⟩)
    (c0 : PySem.W.codeIn K cd0 "_law_cell" = true)
    (k0 : PySem.W.keepIn K (.ref f0) = true)
    (a1 : PySem.W.nsIn K mainGlobals "_law_jar" = some (some (.ref f1)))
    (l1 : K.lookup f1 = some ⟨oc1, od1, .func (PySem.W.fnOf "_law_jar" "_law_jar" (defArgs s__law_jar) (defBody s__law_jar) (defScope s__law_jar) .none kV1 dc1 pm1 an1 cd1 ct1), sl1⟩)
    (c1 : PySem.W.codeIn K cd1 "_law_jar" = true)
    (k1 : PySem.W.keepIn K (.ref f1) = true)
    (a2 : PySem.W.nsIn K mainGlobals "_law_dig" = some (some (.ref f2)))
    (l2 : K.lookup f2 = some ⟨oc2, od2, .func (PySem.W.fnOf "_law_dig" "_law_dig" (defArgs s__law_dig) (defBody s__law_dig) (defScope s__law_dig) .none kV2 dc2 pm2 an2 cd2 ct2), sl2⟩)
    (c2 : PySem.W.codeIn K cd2 "_law_dig" = true)
    (k2 : PySem.W.keepIn K (.ref f2) = true)
    (a3 : PySem.W.nsIn K mainGlobals "_law_take" = some (some (.ref f3)))
    (l3 : K.lookup f3 = some ⟨oc3, od3, .func (PySem.W.fnOf "_law_take" "_law_take" (defArgs s__law_take) (defBody s__law_take) (defScope s__law_take) .none kV3 dc3 pm3 an3 cd3 ct3), sl3⟩)
    (c3 : PySem.W.codeIn K cd3 "_law_take" = true)
    (k3 : PySem.W.keepIn K (.ref f3) = true)
    (a4 : PySem.W.nsIn K mainGlobals "_law_rules" = some (some (.ref f4)))
    (l4 : K.lookup f4 = some ⟨oc4, od4, .func (PySem.W.fnOf "_law_rules" "_law_rules" (defArgs s__law_rules) (defBody s__law_rules) (defScope s__law_rules) .none kV4 dc4 pm4 an4 cd4 ct4), sl4⟩)
    (c4 : PySem.W.codeIn K cd4 "_law_rules" = true)
    (k4 : PySem.W.keepIn K (.ref f4) = true)
    (a5 : PySem.W.nsIn K mainGlobals "_law_sort" = some (some (.ref f5)))
    (l5 : K.lookup f5 = some ⟨oc5, od5, .func (PySem.W.fnOf "_law_sort" "_law_sort" (defArgs s__law_sort) (defBody s__law_sort) (defScope s__law_sort) .none kV5 dc5 pm5 an5 cd5 ct5), sl5⟩)
    (c5 : PySem.W.codeIn K cd5 "_law_sort" = true)
    (k5 : PySem.W.keepIn K (.ref f5) = true)
    (a6 : PySem.W.nsIn K mainGlobals "_law_caught" = some (some (.ref f6)))
    (l6 : K.lookup f6 = some ⟨oc6, od6, .func (PySem.W.fnOf "_law_caught" "_law_caught" (defArgs s__law_caught) (defBody s__law_caught) (defScope s__law_caught) .none kV6 dc6 pm6 an6 cd6 ct6), sl6⟩)
    (c6 : PySem.W.codeIn K cd6 "_law_caught" = true)
    (k6 : PySem.W.keepIn K (.ref f6) = true)
    (a7 : PySem.W.nsIn K mainGlobals "_law_odd" = some (some (.ref f7)))
    (l7 : K.lookup f7 = some ⟨oc7, od7, .func (PySem.W.fnOf "_law_odd" "_law_odd" (defArgs s__law_odd) (defBody s__law_odd) (defScope s__law_odd) .none kV7 dc7 pm7 an7 cd7 ct7), sl7⟩)
    (c7 : PySem.W.codeIn K cd7 "_law_odd" = true)
    (k7 : PySem.W.keepIn K (.ref f7) = true)
    (a8 : PySem.W.nsIn K mainGlobals "_law_wrong" = some (some (.ref f8)))
    (l8 : K.lookup f8 = some ⟨oc8, od8, .func (PySem.W.fnOf "_law_wrong" "_law_wrong" (defArgs s__law_wrong) (defBody s__law_wrong) (defScope s__law_wrong) .none kV8 dc8 pm8 an8 cd8 ct8), sl8⟩)
    (c8 : PySem.W.codeIn K cd8 "_law_wrong" = true)
    (k8 : PySem.W.keepIn K (.ref f8) = true)
    (a9 : PySem.W.nsIn K mainGlobals "_law_right" = some (some (.ref f9)))
    (l9 : K.lookup f9 = some ⟨oc9, od9, .func (PySem.W.fnOf "_law_right" "_law_right" (defArgs s__law_right) (defBody s__law_right) (defScope s__law_right) .none kV9 dc9 pm9 an9 (.ref cl9) ct9), sl9⟩)
    (c9 : PySem.W.codeIn K (.ref cl9) "_law_right" = true)
    (k9 : PySem.W.keepIn K (.ref f9) = true)
    (a10 : PySem.W.nsIn K mainGlobals "law" = some (some (.ref f10)))
    (l10 : K.lookup f10 = some ⟨oc10, od10, .func (PySem.W.fnOf "law" "law" (defArgs s_law) (defBody s_law) (defScope s_law) .none kV10 dc10 pm10 an10 cd10 ct10), sl10⟩)
    (c10 : PySem.W.codeIn K cd10 "law" = true)
    (k10 : PySem.W.keepIn K (.ref f10) = true)
    (a11 : PySem.W.nsIn K mainGlobals "is_number" = some (some (.ref f11)))
    (l11 : K.lookup f11 = some ⟨oc11, od11, .func (PySem.W.fnOf "is_number" "is_number" (defArgs s_is_number) (defBody s_is_number) (defScope s_is_number) .none kV11 dc11 pm11 an11 cd11 ct11), sl11⟩)
    (c11 : PySem.W.codeIn K cd11 "is_number" = true)
    (k11 : PySem.W.keepIn K (.ref f11) = true)
    (a12 : PySem.W.nsIn K mainGlobals "is_number_from" = some (some (.ref f12)))
    (l12 : K.lookup f12 = some ⟨oc12, od12, .func (PySem.W.fnOf "is_number_from" "is_number_from" (defArgs s_is_number_from) (defBody s_is_number_from) (defScope s_is_number_from) .none kV12 dc12 pm12 an12 cd12 ct12), sl12⟩)
    (c12 : PySem.W.codeIn K cd12 "is_number_from" = true)
    (k12 : PySem.W.keepIn K (.ref f12) = true)
    (a13 : PySem.W.nsIn K mainGlobals "is_name" = some (some (.ref f13)))
    (l13 : K.lookup f13 = some ⟨oc13, od13, .func (PySem.W.fnOf "is_name" "is_name" (defArgs s_is_name) (defBody s_is_name) (defScope s_is_name) .none kV13 dc13 pm13 an13 cd13 ct13), sl13⟩)
    (c13 : PySem.W.codeIn K cd13 "is_name" = true)
    (k13 : PySem.W.keepIn K (.ref f13) = true)
    (a14 : PySem.W.nsIn K mainGlobals "is_share" = some (some (.ref f14)))
    (l14 : K.lookup f14 = some ⟨oc14, od14, .func (PySem.W.fnOf "is_share" "is_share" (defArgs s_is_share) (defBody s_is_share) (defScope s_is_share) .none kV14 dc14 pm14 an14 cd14 ct14), sl14⟩)
    (c14 : PySem.W.codeIn K cd14 "is_share" = true)
    (k14 : PySem.W.keepIn K (.ref f14) = true)
    (a15 : PySem.W.nsIn K mainGlobals "check_lot" = some (some (.ref f15)))
    (l15 : K.lookup f15 = some ⟨oc15, od15, .func (PySem.W.fnOf "check_lot" "check_lot" (defArgs s_check_lot) (defBody s_check_lot) (defScope s_check_lot) .none kV15 dc15 pm15 an15 cd15 ct15), sl15⟩)
    (c15 : PySem.W.codeIn K cd15 "check_lot" = true)
    (k15 : PySem.W.keepIn K (.ref f15) = true)
    (a16 : PySem.W.nsIn K mainGlobals "check_number" = some (some (.ref f16)))
    (l16 : K.lookup f16 = some ⟨oc16, od16, .func (PySem.W.fnOf "check_number" "check_number" (defArgs s_check_number) (defBody s_check_number) (defScope s_check_number) .none kV16 dc16 pm16 an16 cd16 ct16), sl16⟩)
    (c16 : PySem.W.codeIn K cd16 "check_number" = true)
    (k16 : PySem.W.keepIn K (.ref f16) = true)
    (a17 : PySem.W.nsIn K mainGlobals "_read_hands" = some (some (.ref f17)))
    (l17 : K.lookup f17 = some ⟨oc17, od17, .func (PySem.W.fnOf "_read_hands" "_read_hands" (defArgs s__read_hands) (defBody s__read_hands) (defScope s__read_hands) .none kV17 dc17 pm17 an17 cd17 ct17), sl17⟩)
    (c17 : PySem.W.codeIn K cd17 "_read_hands" = true)
    (k17 : PySem.W.keepIn K (.ref f17) = true)
    (a18 : PySem.W.nsIn K mainGlobals "_read_works" = some (some (.ref f18)))
    (l18 : K.lookup f18 = some ⟨oc18, od18, .func (PySem.W.fnOf "_read_works" "_read_works" (defArgs s__read_works) (defBody s__read_works) (defScope s__read_works) .none kV18 dc18 pm18 an18 cd18 ct18), sl18⟩)
    (c18 : PySem.W.codeIn K cd18 "_read_works" = true)
    (k18 : PySem.W.keepIn K (.ref f18) = true)
    (a19 : PySem.W.nsIn K mainGlobals "_read_work" = some (some (.ref f19)))
    (l19 : K.lookup f19 = some ⟨oc19, od19, .func (PySem.W.fnOf "_read_work" "_read_work" (defArgs s__read_work) (defBody s__read_work) (defScope s__read_work) .none kV19 dc19 pm19 an19 cd19 ct19), sl19⟩)
    (c19 : PySem.W.codeIn K cd19 "_read_work" = true)
    (k19 : PySem.W.keepIn K (.ref f19) = true)
    (a20 : PySem.W.nsIn K mainGlobals "_read_number" = some (some (.ref f20)))
    (l20 : K.lookup f20 = some ⟨oc20, od20, .func (PySem.W.fnOf "_read_number" "_read_number" (defArgs s__read_number) (defBody s__read_number) (defScope s__read_number) .none kV20 dc20 pm20 an20 cd20 ct20), sl20⟩)
    (c20 : PySem.W.codeIn K cd20 "_read_number" = true)
    (k20 : PySem.W.keepIn K (.ref f20) = true)
    (a21 : PySem.W.nsIn K mainGlobals "_span_of" = some (some (.ref f21)))
    (l21 : K.lookup f21 = some ⟨oc21, od21, .func (PySem.W.fnOf "_span_of" "_span_of" (defArgs s__span_of) (defBody s__span_of) (defScope s__span_of) .none kV21 dc21 pm21 an21 cd21 ct21), sl21⟩)
    (c21 : PySem.W.codeIn K cd21 "_span_of" = true)
    (k21 : PySem.W.keepIn K (.ref f21) = true)
    (a22 : PySem.W.nsIn K mainGlobals "_total_of" = some (some (.ref f22)))
    (l22 : K.lookup f22 = some ⟨oc22, od22, .func (PySem.W.fnOf "_total_of" "_total_of" (defArgs s__total_of) (defBody s__total_of) (defScope s__total_of) .none kV22 dc22 pm22 an22 cd22 ct22), sl22⟩)
    (c22 : PySem.W.codeIn K cd22 "_total_of" = true)
    (k22 : PySem.W.keepIn K (.ref f22) = true)
    (a23 : PySem.W.nsIn K mainGlobals "_quotient_up" = some (some (.ref f23)))
    (l23 : K.lookup f23 = some ⟨oc23, od23, .func (PySem.W.fnOf "_quotient_up" "_quotient_up" (defArgs s__quotient_up) (defBody s__quotient_up) (defScope s__quotient_up) .none kV23 dc23 pm23 an23 cd23 ct23), sl23⟩)
    (c23 : PySem.W.codeIn K cd23 "_quotient_up" = true)
    (k23 : PySem.W.keepIn K (.ref f23) = true)
    (a24 : PySem.W.nsIn K mainGlobals "begin_of" = some (some (.ref f24)))
    (l24 : K.lookup f24 = some ⟨oc24, od24, .func (PySem.W.fnOf "begin_of" "begin_of" (defArgs s_begin_of) (defBody s_begin_of) (defScope s_begin_of) .none kV24 dc24 pm24 an24 cd24 ct24), sl24⟩)
    (c24 : PySem.W.codeIn K cd24 "begin_of" = true)
    (k24 : PySem.W.keepIn K (.ref f24) = true)
    (a25 : PySem.W.nsIn K mainGlobals "border_of" = some (some (.ref f25)))
    (l25 : K.lookup f25 = some ⟨oc25, od25, .func (PySem.W.fnOf "border_of" "border_of" (defArgs s_border_of) (defBody s_border_of) (defScope s_border_of) .none kV25 dc25 pm25 an25 cd25 ct25), sl25⟩)
    (c25 : PySem.W.codeIn K cd25 "border_of" = true)
    (k25 : PySem.W.keepIn K (.ref f25) = true)
    (a26 : PySem.W.nsIn K mainGlobals "overlaps_of" = some (some (.ref f26)))
    (l26 : K.lookup f26 = some ⟨oc26, od26, .func (PySem.W.fnOf "overlaps_of" "overlaps_of" (defArgs s_overlaps_of) (defBody s_overlaps_of) (defScope s_overlaps_of) .none kV26 dc26 pm26 an26 cd26 ct26), sl26⟩)
    (c26 : PySem.W.codeIn K cd26 "overlaps_of" = true)
    (k26 : PySem.W.keepIn K (.ref f26) = true)
    (a27 : PySem.W.nsIn K mainGlobals "group_border_of" = some (some (.ref f27)))
    (l27 : K.lookup f27 = some ⟨oc27, od27, .func (PySem.W.fnOf "group_border_of" "group_border_of" (defArgs s_group_border_of) (defBody s_group_border_of) (defScope s_group_border_of) .none kV27 dc27 pm27 an27 cd27 ct27), sl27⟩)
    (c27 : PySem.W.codeIn K cd27 "group_border_of" = true)
    (k27 : PySem.W.keepIn K (.ref f27) = true)
    (a28 : PySem.W.nsIn K mainGlobals "_rank_by_nearest" = some (some (.ref f28)))
    (l28 : K.lookup f28 = some ⟨oc28, od28, .func (PySem.W.fnOf "_rank_by_nearest" "_rank_by_nearest" (defArgs s__rank_by_nearest) (defBody s__rank_by_nearest) (defScope s__rank_by_nearest) .none kV28 dc28 pm28 an28 cd28 ct28), sl28⟩)
    (c28 : PySem.W.codeIn K cd28 "_rank_by_nearest" = true)
    (k28 : PySem.W.keepIn K (.ref f28) = true)
    (a29 : PySem.W.nsIn K mainGlobals "_rank_by_overlap" = some (some (.ref f29)))
    (l29 : K.lookup f29 = some ⟨oc29, od29, .func (PySem.W.fnOf "_rank_by_overlap" "_rank_by_overlap" (defArgs s__rank_by_overlap) (defBody s__rank_by_overlap) (defScope s__rank_by_overlap) .none kV29 dc29 pm29 an29 cd29 ct29), sl29⟩)
    (c29 : PySem.W.codeIn K cd29 "_rank_by_overlap" = true)
    (k29 : PySem.W.keepIn K (.ref f29) = true)
    (a30 : PySem.W.nsIn K mainGlobals "_rank_by_keen" = some (some (.ref f30)))
    (l30 : K.lookup f30 = some ⟨oc30, od30, .func (PySem.W.fnOf "_rank_by_keen" "_rank_by_keen" (defArgs s__rank_by_keen) (defBody s__rank_by_keen) (defScope s__rank_by_keen) .none kV30 dc30 pm30 an30 cd30 ct30), sl30⟩)
    (c30 : PySem.W.codeIn K cd30 "_rank_by_keen" = true)
    (k30 : PySem.W.keepIn K (.ref f30) = true)
    (a31 : PySem.W.nsIn K mainGlobals "_rank_by_behind" = some (some (.ref f31)))
    (l31 : K.lookup f31 = some ⟨oc31, od31, .func (PySem.W.fnOf "_rank_by_behind" "_rank_by_behind" (defArgs s__rank_by_behind) (defBody s__rank_by_behind) (defScope s__rank_by_behind) .none kV31 dc31 pm31 an31 cd31 ct31), sl31⟩)
    (c31 : PySem.W.codeIn K cd31 "_rank_by_behind" = true)
    (k31 : PySem.W.keepIn K (.ref f31) = true)
    (a32 : PySem.W.nsIn K mainGlobals "_ranks_of" = some (some (.ref f32)))
    (l32 : K.lookup f32 = some ⟨oc32, od32, .func (PySem.W.fnOf "_ranks_of" "_ranks_of" (defArgs s__ranks_of) (defBody s__ranks_of) (defScope s__ranks_of) .none kV32 dc32 pm32 an32 cd32 ct32), sl32⟩)
    (c32 : PySem.W.codeIn K cd32 "_ranks_of" = true)
    (k32 : PySem.W.keepIn K (.ref f32) = true)
    (a33 : PySem.W.nsIn K mainGlobals "paces_of" = some (some (.ref f33)))
    (l33 : K.lookup f33 = some ⟨oc33, od33, .func (PySem.W.fnOf "paces_of" "paces_of" (defArgs s_paces_of) (defBody s_paces_of) (defScope s_paces_of) .none kV33 dc33 pm33 an33 cd33 ct33), sl33⟩)
    (c33 : PySem.W.codeIn K cd33 "paces_of" = true)
    (k33 : PySem.W.keepIn K (.ref f33) = true)
    (a34 : PySem.W.nsIn K mainGlobals "order_of" = some (some (.ref f34)))
    (l34 : K.lookup f34 = some ⟨oc34, od34, .func (PySem.W.fnOf "order_of" "order_of" (defArgs s_order_of) (defBody s_order_of) (defScope s_order_of) .none kV34 dc34 pm34 an34 cd34 ct34), sl34⟩)
    (c34 : PySem.W.codeIn K cd34 "order_of" = true)
    (k34 : PySem.W.keepIn K (.ref f34) = true)
    (a35 : PySem.W.nsIn K mainGlobals "play" = some (some (.ref f35)))
    (l35 : K.lookup f35 = some ⟨oc35, od35, .func (PySem.W.fnOf "play" "play" (defArgs s_play) (defBody s_play) (defScope s_play) .none kV35 dc35 pm35 an35 cd35 ct35), sl35⟩)
    (c35 : PySem.W.codeIn K cd35 "play" = true)
    (k35 : PySem.W.keepIn K (.ref f35) = true)
    (a36 : PySem.W.nsIn K mainGlobals "is_rule" = some (some (.ref f36)))
    (l36 : K.lookup f36 = some ⟨oc36, od36, .func (PySem.W.fnOf "is_rule" "is_rule" (defArgs s_is_rule) (defBody s_is_rule) (defScope s_is_rule) .none kV36 dc36 pm36 an36 cd36 ct36), sl36⟩)
    (c36 : PySem.W.codeIn K cd36 "is_rule" = true)
    (k36 : PySem.W.keepIn K (.ref f36) = true)
    (a37 : PySem.W.nsIn K mainGlobals "check_rule" = some (some (.ref f37)))
    (l37 : K.lookup f37 = some ⟨oc37, od37, .func (PySem.W.fnOf "check_rule" "check_rule" (defArgs s_check_rule) (defBody s_check_rule) (defScope s_check_rule) .none kV37 dc37 pm37 an37 cd37 ct37), sl37⟩)
    (c37 : PySem.W.codeIn K cd37 "check_rule" = true)
    (k37 : PySem.W.keepIn K (.ref f37) = true)
    (a38 : PySem.W.nsIn K mainGlobals "_is_late" = some (some (.ref f38)))
    (l38 : K.lookup f38 = some ⟨oc38, od38, .func (PySem.W.fnOf "_is_late" "_is_late" (defArgs s__is_late) (defBody s__is_late) (defScope s__is_late) .none kV38 dc38 pm38 an38 cd38 ct38), sl38⟩)
    (c38 : PySem.W.codeIn K cd38 "_is_late" = true)
    (k38 : PySem.W.keepIn K (.ref f38) = true)
    (a39 : PySem.W.nsIn K mainGlobals "check_lates" = some (some (.ref f39)))
    (l39 : K.lookup f39 = some ⟨oc39, od39, .func (PySem.W.fnOf "check_lates" "check_lates" (defArgs s_check_lates) (defBody s_check_lates) (defScope s_check_lates) .none kV39 dc39 pm39 an39 cd39 ct39), sl39⟩)
    (c39 : PySem.W.codeIn K cd39 "check_lates" = true)
    (k39 : PySem.W.keepIn K (.ref f39) = true)
    (a40 : PySem.W.nsIn K mainGlobals "_delays_of" = some (some (.ref f40)))
    (l40 : K.lookup f40 = some ⟨oc40, od40, .func (PySem.W.fnOf "_delays_of" "_delays_of" (defArgs s__delays_of) (defBody s__delays_of) (defScope s__delays_of) .none kV40 dc40 pm40 an40 cd40 ct40), sl40⟩)
    (c40 : PySem.W.codeIn K cd40 "_delays_of" = true)
    (k40 : PySem.W.keepIn K (.ref f40) = true)
    (a41 : PySem.W.nsIn K mainGlobals "run" = some (some (.ref f41)))
    (l41 : K.lookup f41 = some ⟨oc41, od41, .func (PySem.W.fnOf "run" "run" (defArgs s_run) (defBody s_run) (defScope s_run) .none kV41 dc41 pm41 an41 cd41 ct41), sl41⟩)
    (c41 : PySem.W.codeIn K cd41 "run" = true)
    (k41 : PySem.W.keepIn K (.ref f41) = true)
    (a42 : PySem.W.nsIn K mainGlobals "worst" = some (some (.ref f42)))
    (l42 : K.lookup f42 = some ⟨oc42, od42, .func (PySem.W.fnOf "worst" "worst" (defArgs s_worst) (defBody s_worst) (defScope s_worst) .none kV42 dc42 pm42 an42 cd42 ct42), sl42⟩)
    (c42 : PySem.W.codeIn K cd42 "worst" = true)
    (k42 : PySem.W.keepIn K (.ref f42) = true)
    (aC : PySem.W.nsIn K mainGlobals "Lot" = some (some (.ref C)))
    (aI : PySem.W.findIn K (.ref C) "__init__" = some (some (.ref fI)))
    (lI : K.lookup fI = some ⟨ocI, odI, .func (PySem.W.fnOf "__init__" "Lot.__init__" (defArgs s_Lot___init__) (defBody s_Lot___init__) (defScope s_Lot___init__) .none kVI dcI pmI anI cdI ctI), slI⟩)
    (cI : PySem.W.codeIn K cdI "Lot.__init__" = true)
    (kI : PySem.W.keepIn K (.ref fI) = true)
    (iI : PySem.W.isFn K (.ref fI) = true)
    (pg : PySem.W.plainGet K C Str.empty = true)
    (hd : PySem.W.hasDictIn K C = true)
    (po : PySem.W.plainOver K C = true)
    (sa : PySem.W.findIn K (.ref C) "__setattr__" = some (some (.builtin "object.__setattr__")))
    (mk : PySem.W.makesIn K C = true)
    (kc : PySem.W.keepIn K (.ref C) = true)
    (ca : PySem.W.findIn K (.ref C) "__class__" = some (some (.builtin "object.__class__")))
    (cb : PySem.W.specialIn K (.builtin "object.__class__") "__get__" = some (some (.builtin "getset_descriptor.__get__")))
    (cc : PySem.W.takesIn K (.builtin "object.__class__") = some true)
    (cm : PySem.W.mroIn K C (.type "object") = some true)
    (n0 : PySem.W.findIn K (.ref C) "_text" = some none)
    (n1 : PySem.W.findIn K (.ref C) "_hands" = some none)
    (n2 : PySem.W.findIn K (.ref C) "_names" = some none)
    (n3 : PySem.W.findIn K (.ref C) "_shares" = some none)
    (n4 : PySem.W.findIn K (.ref C) "_span" = some none)
    (n5 : PySem.W.findIn K (.ref C) "_total" = some none)
    (atPshares : PySem.W.findIn K (.ref C) "shares" = some (some (.ref pPshares)))
    (rePshares_ : PySem.W.recIn K pPshares "property" = some (.ref fPshares :: rePshares))
    (gePshares : PySem.W.specialIn K (.ref pPshares) "__get__" = some (some (.builtin "property.__get__")))
    (taPshares : PySem.W.takesIn K (.ref pPshares) = some true)
    (lPshares : K.lookup fPshares = some ⟨ocPshares, odPshares, .func (PySem.W.fnOf "shares" "Lot.shares" (defArgs s_Lot_shares) (defBody s_Lot_shares) (defScope s_Lot_shares) .none kVPshares dcPshares pmPshares anPshares cdPshares ctPshares), slPshares⟩)
    (cPshares : PySem.W.codeIn K cdPshares "Lot.shares" = true)
    (kPshares : PySem.W.keepIn K (.ref fPshares) = true)
    (atPhands : PySem.W.findIn K (.ref C) "hands" = some (some (.ref pPhands)))
    (rePhands_ : PySem.W.recIn K pPhands "property" = some (.ref fPhands :: rePhands))
    (gePhands : PySem.W.specialIn K (.ref pPhands) "__get__" = some (some (.builtin "property.__get__")))
    (taPhands : PySem.W.takesIn K (.ref pPhands) = some true)
    (lPhands : K.lookup fPhands = some ⟨ocPhands, odPhands, .func (PySem.W.fnOf "hands" "Lot.hands" (defArgs s_Lot_hands) (defBody s_Lot_hands) (defScope s_Lot_hands) .none kVPhands dcPhands pmPhands anPhands cdPhands ctPhands), slPhands⟩)
    (cPhands : PySem.W.codeIn K cdPhands "Lot.hands" = true)
    (kPhands : PySem.W.keepIn K (.ref fPhands) = true)
    (atPspan : PySem.W.findIn K (.ref C) "span" = some (some (.ref pPspan)))
    (rePspan_ : PySem.W.recIn K pPspan "property" = some (.ref fPspan :: rePspan))
    (gePspan : PySem.W.specialIn K (.ref pPspan) "__get__" = some (some (.builtin "property.__get__")))
    (taPspan : PySem.W.takesIn K (.ref pPspan) = some true)
    (lPspan : K.lookup fPspan = some ⟨ocPspan, odPspan, .func (PySem.W.fnOf "span" "Lot.span" (defArgs s_Lot_span) (defBody s_Lot_span) (defScope s_Lot_span) .none kVPspan dcPspan pmPspan anPspan cdPspan ctPspan), slPspan⟩)
    (cPspan : PySem.W.codeIn K cdPspan "Lot.span" = true)
    (kPspan : PySem.W.keepIn K (.ref fPspan) = true)
    (atPnames : PySem.W.findIn K (.ref C) "names" = some (some (.ref pPnames)))
    (rePnames_ : PySem.W.recIn K pPnames "property" = some (.ref fPnames :: rePnames))
    (gePnames : PySem.W.specialIn K (.ref pPnames) "__get__" = some (some (.builtin "property.__get__")))
    (taPnames : PySem.W.takesIn K (.ref pPnames) = some true)
    (lPnames : K.lookup fPnames = some ⟨ocPnames, odPnames, .func (PySem.W.fnOf "names" "Lot.names" (defArgs s_Lot_names) (defBody s_Lot_names) (defScope s_Lot_names) .none kVPnames dcPnames pmPnames anPnames cdPnames ctPnames), slPnames⟩)
    (cPnames : PySem.W.codeIn K cdPnames "Lot.names" = true)
    (kPnames : PySem.W.keepIn K (.ref fPnames) = true)
    (aCQ : PySem.W.nsIn K mainGlobals "Pace" = some (some (.ref CQ)))
    (aQI : PySem.W.findIn K (.ref CQ) "__init__" = some (some (.ref fQI)))
    (lQI : K.lookup fQI = some ⟨ocQI, odQI, .func (PySem.W.fnOf "__init__" "Pace.__init__" (defArgs s_Pace___init__) (defBody s_Pace___init__) (defScope s_Pace___init__) .none kVQI dcQI pmQI anQI cdQI ctQI), slQI⟩)
    (cQI : PySem.W.codeIn K cdQI "Pace.__init__" = true)
    (kQI : PySem.W.keepIn K (.ref fQI) = true)
    (iQI : PySem.W.isFn K (.ref fQI) = true)
    (pgQ : PySem.W.plainGet K CQ Str.empty = true)
    (hdQ : PySem.W.hasDictIn K CQ = true)
    (poQ : PySem.W.plainOver K CQ = true)
    (saQ : PySem.W.findIn K (.ref CQ) "__setattr__" = some (some (.builtin "object.__setattr__")))
    (mkQ : PySem.W.makesIn K CQ = true)
    (kcQ : PySem.W.keepIn K (.ref CQ) = true)
    (nQ0 : PySem.W.findIn K (.ref CQ) "lengths" = some none)
    (nQ1 : PySem.W.findIn K (.ref CQ) "gaps" = some none)
    (nQ2 : PySem.W.findIn K (.ref CQ) "ranks" = some none)
    (aQplace_behind : PySem.W.findIn K (.ref CQ) "place_behind" = some (some (.ref fQplace_behind)))
    (lQplace_behind : K.lookup fQplace_behind = some ⟨ocQplace_behind, odQplace_behind, .func (PySem.W.fnOf "place_behind" "Pace.place_behind" (defArgs s_Pace_place_behind) (defBody s_Pace_place_behind) (defScope s_Pace_place_behind) .none kVQplace_behind dcQplace_behind pmQplace_behind anQplace_behind cdQplace_behind ctQplace_behind), slQplace_behind⟩)
    (cQplace_behind : PySem.W.codeIn K cdQplace_behind "Pace.place_behind" = true)
    (kQplace_behind : PySem.W.keepIn K (.ref fQplace_behind) = true)
    (iQplace_behind : PySem.W.isFn K (.ref fQplace_behind) = true)
    (no0 : PySem.W.kitOne K (.type "dict") (.ref C) = some false)
    (no1 : PySem.W.kitOne K (.type "NoneType") (.ref C) = some false)
    (no2 : PySem.W.kitOne K (.type "bool") (.ref C) = some false)
    (no3 : PySem.W.kitOne K (.type "int") (.ref C) = some false)
    (no4 : PySem.W.kitOne K (.type "str") (.ref C) = some false)
    (no5 : PySem.W.kitOne K (.type "list") (.ref C) = some false)
    (no6 : PySem.W.kitOne K (.type "tuple") (.ref C) = some false)
    (lkR : PySem.W.nsIn K mainGlobals "RANKINGS" = some (some (.ref AR)))
    (lkU : PySem.W.nsIn K mainGlobals "RULES" = some (some (.ref AU)))
    (kdR : L2.KDict K w AR esR nR)
    (nsR0 : PySem.W.nsIn K AR "nearest" = some (some (.ref f28)))
    (nsR1 : PySem.W.nsIn K AR "overlap" = some (some (.ref f29)))
    (nsR2 : PySem.W.nsIn K AR "keen" = some (some (.ref f30)))
    (nsR3 : PySem.W.nsIn K AR "behind" = some (some (.ref f31)))
    (stU : strsIn K AU = some ((["nearest", "overlap", "keen", "behind"] : List Str).map some))
    (nR01 : f28 ≠ f29)
    (nR02 : f28 ≠ f30)
    (nR03 : f28 ≠ f31)
    (nR12 : f29 ≠ f30)
    (nR13 : f29 ≠ f31)
    (nR23 : f30 ≠ f31)
    (en0 : PySem.W.nsIn K mainGlobals "NotALot" = some (some (.ref e0)))
    (en1 : PySem.W.nsIn K mainGlobals "UnknownName" = some (some (.ref e1)))
    (en2 : PySem.W.nsIn K mainGlobals "InvalidNumber" = some (some (.ref e2)))
    (en3 : PySem.W.nsIn K mainGlobals "InvalidRule" = some (some (.ref e3)))
    (en4 : PySem.W.nsIn K mainGlobals "InvalidStanding" = some (some (.ref e4)))
    (en5 : PySem.W.nsIn K mainGlobals "InvalidTable" = some (some (.ref e5)))
    (en6 : PySem.W.nsIn K mainGlobals "InvalidLates" = some (some (.ref e6)))
    (en7 : PySem.W.nsIn K mainGlobals "InvalidCounts" = some (some (.ref e7)))
    (en8 : PySem.W.nsIn K mainGlobals "TooMany" = some (some (.ref e8)))
    (ev0 : PySem.W.nsIn K mainGlobals "WrongValue" = some (some (.ref v0)))
    (ev1 : PySem.W.nsIn K mainGlobals "WrongName" = some (some (.ref v1)))
    (ev2 : PySem.W.nsIn K mainGlobals "NoAnswer" = some (some (.ref v2)))
    (xcb : PySem.W.specialIn K (.builtin "object.__class__") "__get__" = some (some (.builtin "getset_descriptor.__get__")))
    (xcc : PySem.W.takesIn K (.builtin "object.__class__") = some true)
    (xei0 : PySem.W.excInitIn K e0 [.type "ValueError", .type "Exception", .type "BaseException", .type "object"] "ValueError.__new__" = true)
    (xeo0 : PySem.W.excOver K e0 [.type "ValueError", .type "Exception", .type "BaseException", .type "object"] = true)
    (xsa0 : PySem.W.findIn K (.ref e0) "__setattr__" = some (some (.builtin "object.__setattr__")))
    (xga0 : PySem.W.findIn K (.ref e0) "__getattribute__" = some (some (.builtin "BaseException.__getattribute__")))
    (xgg0 : PySem.W.findIn K (.ref e0) "__getattr__" = some none)
    (xca0 : PySem.W.findIn K (.ref e0) "__class__" = some (some (.builtin "object.__class__")))
    (xno0 : PySem.W.findIn K (.ref e0) "given" = some none)
    (xsb0 : PySem.W.subIn K (.ref e0) (.type "BaseException") = some true)
    (xty0 : PySem.W.typeIn K (.ref e0) = some (.type "type"))
    (xkc0 : PySem.W.keepIn K (.ref e0) = true)
    (xic0 : PySem.W.isClsIn K e0 = true)
    (xcm0 : PySem.W.mroIn K e0 (.type "object") = some true)
    (xhd0 : PySem.W.hasDictIn K e0 = true)
    (aX0 : PySem.W.findIn K (.ref e0) "__init__" = some (some (.ref fX0)))
    (lX0 : K.lookup fX0 = some ⟨ocX0, odX0, .func (PySem.W.fnOf "__init__" "NotALot.__init__" (defArgs s_NotALot___init__) (defBody s_NotALot___init__) (defScope s_NotALot___init__) .none kVX0 dcX0 pmX0 anX0 cdX0 ctX0), slX0⟩)
    (cX0 : PySem.W.codeIn K cdX0 "NotALot.__init__" = true)
    (kX0 : PySem.W.keepIn K (.ref fX0) = true)
    (xti0 : PySem.W.typeIn K (.ref fX0) = some (.type "function"))
    (xk0_0 : PySem.W.kitOne K (.ref e0) (.ref e0) = some true)
    (xk0_1 : PySem.W.kitOne K (.ref e0) (.ref e1) = some false)
    (xk0_2 : PySem.W.kitOne K (.ref e0) (.ref e2) = some false)
    (xk0_3 : PySem.W.kitOne K (.ref e0) (.ref e3) = some false)
    (xk0_4 : PySem.W.kitOne K (.ref e0) (.ref e4) = some false)
    (xk0_5 : PySem.W.kitOne K (.ref e0) (.ref e5) = some false)
    (xk0_6 : PySem.W.kitOne K (.ref e0) (.ref e6) = some false)
    (xk0_7 : PySem.W.kitOne K (.ref e0) (.ref e7) = some false)
    (xk0_8 : PySem.W.kitOne K (.ref e0) (.ref e8) = some false)
    (xan0 : PySem.W.exmAny K (.ref e0) [.ref v0, .ref v1, .ref v2] = some true)
    (xei2 : PySem.W.excInitIn K e2 [.type "ValueError", .type "Exception", .type "BaseException", .type "object"] "ValueError.__new__" = true)
    (xeo2 : PySem.W.excOver K e2 [.type "ValueError", .type "Exception", .type "BaseException", .type "object"] = true)
    (xsa2 : PySem.W.findIn K (.ref e2) "__setattr__" = some (some (.builtin "object.__setattr__")))
    (xga2 : PySem.W.findIn K (.ref e2) "__getattribute__" = some (some (.builtin "BaseException.__getattribute__")))
    (xgg2 : PySem.W.findIn K (.ref e2) "__getattr__" = some none)
    (xca2 : PySem.W.findIn K (.ref e2) "__class__" = some (some (.builtin "object.__class__")))
    (xno2 : PySem.W.findIn K (.ref e2) "given" = some none)
    (xsb2 : PySem.W.subIn K (.ref e2) (.type "BaseException") = some true)
    (xty2 : PySem.W.typeIn K (.ref e2) = some (.type "type"))
    (xkc2 : PySem.W.keepIn K (.ref e2) = true)
    (xic2 : PySem.W.isClsIn K e2 = true)
    (xcm2 : PySem.W.mroIn K e2 (.type "object") = some true)
    (xhd2 : PySem.W.hasDictIn K e2 = true)
    (aX2 : PySem.W.findIn K (.ref e2) "__init__" = some (some (.ref fX2)))
    (lX2 : K.lookup fX2 = some ⟨ocX2, odX2, .func (PySem.W.fnOf "__init__" "InvalidNumber.__init__" (defArgs s_InvalidNumber___init__) (defBody s_InvalidNumber___init__) (defScope s_InvalidNumber___init__) .none kVX2 dcX2 pmX2 anX2 cdX2 ctX2), slX2⟩)
    (cX2 : PySem.W.codeIn K cdX2 "InvalidNumber.__init__" = true)
    (kX2 : PySem.W.keepIn K (.ref fX2) = true)
    (xti2 : PySem.W.typeIn K (.ref fX2) = some (.type "function"))
    (xk2_0 : PySem.W.kitOne K (.ref e2) (.ref e0) = some false)
    (xk2_1 : PySem.W.kitOne K (.ref e2) (.ref e1) = some false)
    (xk2_2 : PySem.W.kitOne K (.ref e2) (.ref e2) = some true)
    (xk2_3 : PySem.W.kitOne K (.ref e2) (.ref e3) = some false)
    (xk2_4 : PySem.W.kitOne K (.ref e2) (.ref e4) = some false)
    (xk2_5 : PySem.W.kitOne K (.ref e2) (.ref e5) = some false)
    (xk2_6 : PySem.W.kitOne K (.ref e2) (.ref e6) = some false)
    (xk2_7 : PySem.W.kitOne K (.ref e2) (.ref e7) = some false)
    (xk2_8 : PySem.W.kitOne K (.ref e2) (.ref e8) = some false)
    (xan2 : PySem.W.exmAny K (.ref e2) [.ref v0, .ref v1, .ref v2] = some true)
    (xei3 : PySem.W.excInitIn K e3 [.type "ValueError", .type "Exception", .type "BaseException", .type "object"] "ValueError.__new__" = true)
    (xeo3 : PySem.W.excOver K e3 [.type "ValueError", .type "Exception", .type "BaseException", .type "object"] = true)
    (xsa3 : PySem.W.findIn K (.ref e3) "__setattr__" = some (some (.builtin "object.__setattr__")))
    (xga3 : PySem.W.findIn K (.ref e3) "__getattribute__" = some (some (.builtin "BaseException.__getattribute__")))
    (xgg3 : PySem.W.findIn K (.ref e3) "__getattr__" = some none)
    (xca3 : PySem.W.findIn K (.ref e3) "__class__" = some (some (.builtin "object.__class__")))
    (xno3 : PySem.W.findIn K (.ref e3) "given" = some none)
    (xsb3 : PySem.W.subIn K (.ref e3) (.type "BaseException") = some true)
    (xty3 : PySem.W.typeIn K (.ref e3) = some (.type "type"))
    (xkc3 : PySem.W.keepIn K (.ref e3) = true)
    (xic3 : PySem.W.isClsIn K e3 = true)
    (xcm3 : PySem.W.mroIn K e3 (.type "object") = some true)
    (xhd3 : PySem.W.hasDictIn K e3 = true)
    (aX3 : PySem.W.findIn K (.ref e3) "__init__" = some (some (.ref fX3)))
    (lX3 : K.lookup fX3 = some ⟨ocX3, odX3, .func (PySem.W.fnOf "__init__" "InvalidRule.__init__" (defArgs s_InvalidRule___init__) (defBody s_InvalidRule___init__) (defScope s_InvalidRule___init__) .none kVX3 dcX3 pmX3 anX3 cdX3 ctX3), slX3⟩)
    (cX3 : PySem.W.codeIn K cdX3 "InvalidRule.__init__" = true)
    (kX3 : PySem.W.keepIn K (.ref fX3) = true)
    (xti3 : PySem.W.typeIn K (.ref fX3) = some (.type "function"))
    (xk3_0 : PySem.W.kitOne K (.ref e3) (.ref e0) = some false)
    (xk3_1 : PySem.W.kitOne K (.ref e3) (.ref e1) = some false)
    (xk3_2 : PySem.W.kitOne K (.ref e3) (.ref e2) = some false)
    (xk3_3 : PySem.W.kitOne K (.ref e3) (.ref e3) = some true)
    (xk3_4 : PySem.W.kitOne K (.ref e3) (.ref e4) = some false)
    (xk3_5 : PySem.W.kitOne K (.ref e3) (.ref e5) = some false)
    (xk3_6 : PySem.W.kitOne K (.ref e3) (.ref e6) = some false)
    (xk3_7 : PySem.W.kitOne K (.ref e3) (.ref e7) = some false)
    (xk3_8 : PySem.W.kitOne K (.ref e3) (.ref e8) = some false)
    (xan3 : PySem.W.exmAny K (.ref e3) [.ref v0, .ref v1, .ref v2] = some true)
    (xei6 : PySem.W.excInitIn K e6 [.type "ValueError", .type "Exception", .type "BaseException", .type "object"] "ValueError.__new__" = true)
    (xeo6 : PySem.W.excOver K e6 [.type "ValueError", .type "Exception", .type "BaseException", .type "object"] = true)
    (xsa6 : PySem.W.findIn K (.ref e6) "__setattr__" = some (some (.builtin "object.__setattr__")))
    (xga6 : PySem.W.findIn K (.ref e6) "__getattribute__" = some (some (.builtin "BaseException.__getattribute__")))
    (xgg6 : PySem.W.findIn K (.ref e6) "__getattr__" = some none)
    (xca6 : PySem.W.findIn K (.ref e6) "__class__" = some (some (.builtin "object.__class__")))
    (xno6 : PySem.W.findIn K (.ref e6) "index" = some none)
    (xsb6 : PySem.W.subIn K (.ref e6) (.type "BaseException") = some true)
    (xty6 : PySem.W.typeIn K (.ref e6) = some (.type "type"))
    (xkc6 : PySem.W.keepIn K (.ref e6) = true)
    (xic6 : PySem.W.isClsIn K e6 = true)
    (xcm6 : PySem.W.mroIn K e6 (.type "object") = some true)
    (xhd6 : PySem.W.hasDictIn K e6 = true)
    (aX6 : PySem.W.findIn K (.ref e6) "__init__" = some (some (.ref fX6)))
    (lX6 : K.lookup fX6 = some ⟨ocX6, odX6, .func (PySem.W.fnOf "__init__" "InvalidLates.__init__" (defArgs s_InvalidLates___init__) (defBody s_InvalidLates___init__) (defScope s_InvalidLates___init__) .none kVX6 dcX6 pmX6 anX6 cdX6 ctX6), slX6⟩)
    (cX6 : PySem.W.codeIn K cdX6 "InvalidLates.__init__" = true)
    (kX6 : PySem.W.keepIn K (.ref fX6) = true)
    (xti6 : PySem.W.typeIn K (.ref fX6) = some (.type "function"))
    (xk6_0 : PySem.W.kitOne K (.ref e6) (.ref e0) = some false)
    (xk6_1 : PySem.W.kitOne K (.ref e6) (.ref e1) = some false)
    (xk6_2 : PySem.W.kitOne K (.ref e6) (.ref e2) = some false)
    (xk6_3 : PySem.W.kitOne K (.ref e6) (.ref e3) = some false)
    (xk6_4 : PySem.W.kitOne K (.ref e6) (.ref e4) = some false)
    (xk6_5 : PySem.W.kitOne K (.ref e6) (.ref e5) = some false)
    (xk6_6 : PySem.W.kitOne K (.ref e6) (.ref e6) = some true)
    (xk6_7 : PySem.W.kitOne K (.ref e6) (.ref e7) = some false)
    (xk6_8 : PySem.W.kitOne K (.ref e6) (.ref e8) = some false)
    (xan6 : PySem.W.exmAny K (.ref e6) [.ref v0, .ref v1, .ref v2] = some true)
    (xei8 : PySem.W.excInitIn K e8 [.type "ArithmeticError", .type "Exception", .type "BaseException", .type "object"] "ArithmeticError.__new__" = true)
    (xeo8 : PySem.W.excOver K e8 [.type "ArithmeticError", .type "Exception", .type "BaseException", .type "object"] = true)
    (xsa8 : PySem.W.findIn K (.ref e8) "__setattr__" = some (some (.builtin "object.__setattr__")))
    (xga8 : PySem.W.findIn K (.ref e8) "__getattribute__" = some (some (.builtin "BaseException.__getattribute__")))
    (xgg8 : PySem.W.findIn K (.ref e8) "__getattr__" = some none)
    (xca8 : PySem.W.findIn K (.ref e8) "__class__" = some (some (.builtin "object.__class__")))
    (xno8 : PySem.W.findIn K (.ref e8) "limit" = some none)
    (xsb8 : PySem.W.subIn K (.ref e8) (.type "BaseException") = some true)
    (xty8 : PySem.W.typeIn K (.ref e8) = some (.type "type"))
    (xkc8 : PySem.W.keepIn K (.ref e8) = true)
    (xic8 : PySem.W.isClsIn K e8 = true)
    (xcm8 : PySem.W.mroIn K e8 (.type "object") = some true)
    (xhd8 : PySem.W.hasDictIn K e8 = true)
    (aX8 : PySem.W.findIn K (.ref e8) "__init__" = some (some (.ref fX8)))
    (lX8 : K.lookup fX8 = some ⟨ocX8, odX8, .func (PySem.W.fnOf "__init__" "TooMany.__init__" (defArgs s_TooMany___init__) (defBody s_TooMany___init__) (defScope s_TooMany___init__) .none kVX8 dcX8 pmX8 anX8 cdX8 ctX8), slX8⟩)
    (cX8 : PySem.W.codeIn K cdX8 "TooMany.__init__" = true)
    (kX8 : PySem.W.keepIn K (.ref fX8) = true)
    (xti8 : PySem.W.typeIn K (.ref fX8) = some (.type "function"))
    (xk8_0 : PySem.W.kitOne K (.ref e8) (.ref e0) = some false)
    (xk8_1 : PySem.W.kitOne K (.ref e8) (.ref e1) = some false)
    (xk8_2 : PySem.W.kitOne K (.ref e8) (.ref e2) = some false)
    (xk8_3 : PySem.W.kitOne K (.ref e8) (.ref e3) = some false)
    (xk8_4 : PySem.W.kitOne K (.ref e8) (.ref e4) = some false)
    (xk8_5 : PySem.W.kitOne K (.ref e8) (.ref e5) = some false)
    (xk8_6 : PySem.W.kitOne K (.ref e8) (.ref e6) = some false)
    (xk8_7 : PySem.W.kitOne K (.ref e8) (.ref e7) = some false)
    (xk8_8 : PySem.W.kitOne K (.ref e8) (.ref e8) = some true)
    (xan8 : PySem.W.exmAny K (.ref e8) [.ref v0, .ref v1, .ref v2] = some true)
    (o0 : PySem.W.nsIn K mainGlobals "MOST_WORKS" = some (some (.int 6 t0)))
    (o1 : PySem.W.nsIn K mainGlobals "MOST_HANDS" = some (some (.int 6 t1)))
    (o2 : PySem.W.nsIn K mainGlobals "MOST_PERIOD" = some (some (.int 16 t2)))
    (o3 : PySem.W.nsIn K mainGlobals "LONGEST_NAME" = some (some (.int 8 t3)))
    (o4 : PySem.W.nsIn K mainGlobals "LETTERS" = some (some (.str (Str.ofString "abcdefghijklmnopqrstuvwxyz") t4)))
    (oMOST_LATES : PySem.W.nsIn K mainGlobals "MOST_LATES" = some (some (.int 200 tMOST_LATES)))
    (oMOST_RUN : PySem.W.nsIn K mainGlobals "MOST_RUN" = some (some (.int 2000 tMOST_RUN)))
    (oMOST_LATE_TURN : PySem.W.nsIn K mainGlobals "MOST_LATE_TURN" = some (some (.int 1000000 tMOST_LATE_TURN)))
    (oMOST_LATE_BY : PySem.W.nsIn K mainGlobals "MOST_LATE_BY" = some (some (.int 1000000 tMOST_LATE_BY)))
    (oMOST_SEARCHED_WORKS : PySem.W.nsIn K mainGlobals "MOST_SEARCHED_WORKS" = some (some (.int 4 tMOST_SEARCHED_WORKS)))
    (oMOST_SEARCHED_PERIOD : PySem.W.nsIn K mainGlobals "MOST_SEARCHED_PERIOD" = some (some (.int 6 tMOST_SEARCHED_PERIOD)))
    (zlen : PySem.W.nsIn K mainGlobals "len" = some none)
    (zrange : PySem.W.nsIn K mainGlobals "range" = some none)
    (zabs : PySem.W.nsIn K mainGlobals "abs" = some none)
    (zdivmod : PySem.W.nsIn K mainGlobals "divmod" = some none)
    (zint : PySem.W.nsIn K mainGlobals "int" = some none)
    (zstr : PySem.W.nsIn K mainGlobals "str" = some none)
    (zbool : PySem.W.nsIn K mainGlobals "bool" = some none)
    (zrepr : PySem.W.nsIn K mainGlobals "repr" = some none)
    (zisinstance : PySem.W.nsIn K mainGlobals "isinstance" = some none)
    (ztuple : PySem.W.nsIn K mainGlobals "tuple" = some none)
    (zlist : PySem.W.nsIn K mainGlobals "list" = some none)
    (zdict : PySem.W.nsIn K mainGlobals "dict" = some none)
    (zzip : PySem.W.nsIn K mainGlobals "zip" = some none)
    (zsum : PySem.W.nsIn K mainGlobals "sum" = some none)
    (zall : PySem.W.nsIn K mainGlobals "all" = some none)
    (zmax : PySem.W.nsIn K mainGlobals "max" = some none)
    (zmin : PySem.W.nsIn K mainGlobals "min" = some none)
    (zsorted : PySem.W.nsIn K mainGlobals "sorted" = some none)
    (zset : PySem.W.nsIn K mainGlobals "set" = some none)
    (zenumerate : PySem.W.nsIn K mainGlobals "enumerate" = some none)
    (g_gcd : PySem.W.nsIn K mainGlobals "gcd" = some (some (.builtin "math.gcd")))
    (g_lcm : PySem.W.nsIn K mainGlobals "lcm" = some (some (.builtin "math.lcm")))
    : ∃ (fd : FuncData), (∀ p ∈ (lamT pl9 "_law_right" : List (Addr × Str)), ∃ c, (c, p.1) ∈ ([(cl9, pl9)] : List (Addr × Addr))) ∧ (∀ (s : Shared) (u : Value), BindsTo s fd ⟨[u], []⟩ [("_law_cells", u)]) ∧ ∀ base : Heap, (∀ p ∈ ([(cl9, pl9)] : List (Addr × Addr)), TabB base mg p.1 p.2) → FnG l.prog w K mg base 16 fa fd ["_law_cells"] (spLawT K (lamT pl9 "_law_right")) := by
  have D__law_cell : DefAt K mg "_law_cell" s__law_cell := ⟨_, _, fun_mk l0 c0 k0, PySem.W.mg_of X G a0⟩
  have D__law_jar : DefAt K mg "_law_jar" s__law_jar := ⟨_, _, fun_mk l1 c1 k1, PySem.W.mg_of X G a1⟩
  have D__law_dig : DefAt K mg "_law_dig" s__law_dig := ⟨_, _, fun_mk l2 c2 k2, PySem.W.mg_of X G a2⟩
  have D__law_take : DefAt K mg "_law_take" s__law_take := ⟨_, _, fun_mk l3 c3 k3, PySem.W.mg_of X G a3⟩
  have D__law_rules : DefAt K mg "_law_rules" s__law_rules := ⟨_, _, fun_mk l4 c4 k4, PySem.W.mg_of X G a4⟩
  have D__law_sort : DefAt K mg "_law_sort" s__law_sort := ⟨_, _, fun_mk l5 c5 k5, PySem.W.mg_of X G a5⟩
  have D__law_caught : DefAt K mg "_law_caught" s__law_caught := ⟨_, _, fun_mk l6 c6 k6, PySem.W.mg_of X G a6⟩
  have D__law_odd : DefAt K mg "_law_odd" s__law_odd := ⟨_, _, fun_mk l7 c7 k7, PySem.W.mg_of X G a7⟩
  have D__law_wrong : DefAt K mg "_law_wrong" s__law_wrong := ⟨_, _, fun_mk l8 c8 k8, PySem.W.mg_of X G a8⟩
  have D__law_right : DefAtC K mg "_law_right" s__law_right cl9 := ⟨_, _, fun_mk l9 c9 k9, PySem.W.mg_of X G a9, rfl⟩
  have D_law : DefAt K mg "law" s_law := ⟨_, _, fun_mk l10 c10 k10, PySem.W.mg_of X G a10⟩
  have D_is_number : DefAt K mg "is_number" s_is_number := ⟨_, _, fun_mk l11 c11 k11, PySem.W.mg_of X G a11⟩
  have D_is_number_from : DefAt K mg "is_number_from" s_is_number_from := ⟨_, _, fun_mk l12 c12 k12, PySem.W.mg_of X G a12⟩
  have D_is_name : DefAt K mg "is_name" s_is_name := ⟨_, _, fun_mk l13 c13 k13, PySem.W.mg_of X G a13⟩
  have D_is_share : DefAt K mg "is_share" s_is_share := ⟨_, _, fun_mk l14 c14 k14, PySem.W.mg_of X G a14⟩
  have D_check_lot : DefAt K mg "check_lot" s_check_lot := ⟨_, _, fun_mk l15 c15 k15, PySem.W.mg_of X G a15⟩
  have D_check_number : DefAt K mg "check_number" s_check_number := ⟨_, _, fun_mk l16 c16 k16, PySem.W.mg_of X G a16⟩
  have D__read_hands : DefAt K mg "_read_hands" s__read_hands := ⟨_, _, fun_mk l17 c17 k17, PySem.W.mg_of X G a17⟩
  have D__read_works : DefAt K mg "_read_works" s__read_works := ⟨_, _, fun_mk l18 c18 k18, PySem.W.mg_of X G a18⟩
  have D__read_work : DefAt K mg "_read_work" s__read_work := ⟨_, _, fun_mk l19 c19 k19, PySem.W.mg_of X G a19⟩
  have D__read_number : DefAt K mg "_read_number" s__read_number := ⟨_, _, fun_mk l20 c20 k20, PySem.W.mg_of X G a20⟩
  have D__span_of : DefAt K mg "_span_of" s__span_of := ⟨_, _, fun_mk l21 c21 k21, PySem.W.mg_of X G a21⟩
  have D__total_of : DefAt K mg "_total_of" s__total_of := ⟨_, _, fun_mk l22 c22 k22, PySem.W.mg_of X G a22⟩
  have D__quotient_up : DefAt K mg "_quotient_up" s__quotient_up := ⟨_, _, fun_mk l23 c23 k23, PySem.W.mg_of X G a23⟩
  have D_begin_of : DefAt K mg "begin_of" s_begin_of := ⟨_, _, fun_mk l24 c24 k24, PySem.W.mg_of X G a24⟩
  have D_border_of : DefAt K mg "border_of" s_border_of := ⟨_, _, fun_mk l25 c25 k25, PySem.W.mg_of X G a25⟩
  have D_overlaps_of : DefAt K mg "overlaps_of" s_overlaps_of := ⟨_, _, fun_mk l26 c26 k26, PySem.W.mg_of X G a26⟩
  have D_group_border_of : DefAt K mg "group_border_of" s_group_border_of := ⟨_, _, fun_mk l27 c27 k27, PySem.W.mg_of X G a27⟩
  have D__rank_by_nearest : DefAt K mg "_rank_by_nearest" s__rank_by_nearest := ⟨_, _, fun_mk l28 c28 k28, PySem.W.mg_of X G a28⟩
  have D__rank_by_overlap : DefAt K mg "_rank_by_overlap" s__rank_by_overlap := ⟨_, _, fun_mk l29 c29 k29, PySem.W.mg_of X G a29⟩
  have D__rank_by_keen : DefAt K mg "_rank_by_keen" s__rank_by_keen := ⟨_, _, fun_mk l30 c30 k30, PySem.W.mg_of X G a30⟩
  have D__rank_by_behind : DefAt K mg "_rank_by_behind" s__rank_by_behind := ⟨_, _, fun_mk l31 c31 k31, PySem.W.mg_of X G a31⟩
  have D__ranks_of : DefAt K mg "_ranks_of" s__ranks_of := ⟨_, _, fun_mk l32 c32 k32, PySem.W.mg_of X G a32⟩
  have D_paces_of : DefAt K mg "paces_of" s_paces_of := ⟨_, _, fun_mk l33 c33 k33, PySem.W.mg_of X G a33⟩
  have D_order_of : DefAt K mg "order_of" s_order_of := ⟨_, _, fun_mk l34 c34 k34, PySem.W.mg_of X G a34⟩
  have D_play : DefAt K mg "play" s_play := ⟨_, _, fun_mk l35 c35 k35, PySem.W.mg_of X G a35⟩
  have D_is_rule : DefAt K mg "is_rule" s_is_rule := ⟨_, _, fun_mk l36 c36 k36, PySem.W.mg_of X G a36⟩
  have D_check_rule : DefAt K mg "check_rule" s_check_rule := ⟨_, _, fun_mk l37 c37 k37, PySem.W.mg_of X G a37⟩
  have D__is_late : DefAt K mg "_is_late" s__is_late := ⟨_, _, fun_mk l38 c38 k38, PySem.W.mg_of X G a38⟩
  have D_check_lates : DefAt K mg "check_lates" s_check_lates := ⟨_, _, fun_mk l39 c39 k39, PySem.W.mg_of X G a39⟩
  have D__delays_of : DefAt K mg "_delays_of" s__delays_of := ⟨_, _, fun_mk l40 c40 k40, PySem.W.mg_of X G a40⟩
  have D_run : DefAt K mg "run" s_run := ⟨_, _, fun_mk l41 c41 k41, PySem.W.mg_of X G a41⟩
  have D_worst : DefAt K mg "worst" s_worst := ⟨_, _, fun_mk l42 c42 k42, PySem.W.mg_of X G a42⟩
  have B0 : Blt0 mg := ⟨PySem.W.mg_none_of X G zlen, PySem.W.mg_none_of X G zrange, PySem.W.mg_none_of X G zabs, PySem.W.mg_none_of X G zdivmod, PySem.W.mg_none_of X G zint, PySem.W.mg_none_of X G zstr, PySem.W.mg_none_of X G zbool, PySem.W.mg_none_of X G zrepr, PySem.W.mg_none_of X G zisinstance, PySem.W.mg_none_of X G ztuple, PySem.W.mg_none_of X G zlist, PySem.W.mg_none_of X G zdict, PySem.W.mg_none_of X G zzip, PySem.W.mg_none_of X G zsum, PySem.W.mg_none_of X G zall, PySem.W.mg_none_of X G zmax, PySem.W.mg_none_of X G zmin, PySem.W.mg_none_of X G zsorted, PySem.W.mg_none_of X G zset, PySem.W.mg_none_of X G zenumerate⟩
  have B : Blt mg := ⟨B0, PySem.W.mg_of X G g_gcd, PySem.W.mg_of X G g_lcm⟩
  have C2 : Cst mg := ⟨⟨_, PySem.W.mg_of X G o0⟩, ⟨_, PySem.W.mg_of X G o1⟩, ⟨_, PySem.W.mg_of X G o2⟩, ⟨_, PySem.W.mg_of X G o3⟩, ⟨_, PySem.W.mg_of X G o4⟩⟩
  have T : LotC K mg C := ⟨⟨pg, hd, po, sa⟩, n0, n1, n2, n3, n4, n5, PySem.W.mg_of X G aC⟩
  have I : LotI K C := ⟨ca, cb, cc, cm⟩
  have FI := fun_mk (st := s_Lot___init__) lI cI kI
  have PC : PaceC K mg CQ := ⟨⟨pgQ, hdQ, poQ, saQ⟩, nQ0, nQ1, nQ2, PySem.W.mg_of X G aCQ⟩
  have FQI := fun_mk (st := s_Pace___init__) lQI cQI kQI
  have F_Qplace_behind := fun_mk (st := s_Pace_place_behind) lQplace_behind cQplace_behind kQplace_behind
  have F_shares := fun_mk (st := s_Lot_shares) lPshares cPshares kPshares
  have F_hands := fun_mk (st := s_Lot_hands) lPhands cPhands kPhands
  have F_span := fun_mk (st := s_Lot_span) lPspan cPspan kPspan
  have F_names := fun_mk (st := s_Lot_names) lPnames cPnames kPnames
  obtain ⟨f, fd, F, hm⟩ := D_law.ex
  cases hfa.symm.trans hm
  refine ⟨fd, ?_, ?_, fun base hTB => ?_⟩
  · intro p hp
    simp only [lamT, List.cons_append, List.nil_append, List.mem_cons, List.mem_nil_iff, or_false, List.not_mem_nil] at hp
    rcases hp with rfl
    · exact ⟨cl9, by simp⟩
  · obtain ⟨oc, od, kV, doc, pm, an, cdv, ct, osl, rfl, lk, hcd⟩ := F.ex
    exact fun s u => .of_eq rfl
  have TB__law_right : TabB base mg cl9 pl9 := hTB (cl9, pl9) (by simp)
  have N : ErrN9 mg ⟨e0, e1, e2, e3, e4, e5, e6, e7, e8⟩ ⟨v0, v1, v2⟩ := ⟨PySem.W.mg_of X G en0, PySem.W.mg_of X G en1, PySem.W.mg_of X G en2, PySem.W.mg_of X G en3, PySem.W.mg_of X G en4, PySem.W.mg_of X G en5, PySem.W.mg_of X G en6, PySem.W.mg_of X G en7, PySem.W.mg_of X G en8, PySem.W.mg_of X G ev0, PySem.W.mg_of X G ev1, PySem.W.mg_of X G ev2⟩
  have XK0 : ExcK K e0 := ⟨xic0, xga0, xgg0, xsb0, xca0, xcb, xcc, xcm0, xhd0⟩
  have XS0 : IsSort K ⟨e0, e1, e2, e3, e4, e5, e6, e7, e8⟩ e0 0 := ⟨by decide, fun j a h => (match j, a, h with | 0, _, h => by cases h; exact xk0_0 | 1, _, h => by cases h; exact xk0_1 | 2, _, h => by cases h; exact xk0_2 | 3, _, h => by cases h; exact xk0_3 | 4, _, h => by cases h; exact xk0_4 | 5, _, h => by cases h; exact xk0_5 | 6, _, h => by cases h; exact xk0_6 | 7, _, h => by cases h; exact xk0_7 | 8, _, h => by cases h; exact xk0_8)⟩
  have EI_NotALot : SortI K ⟨e0, e1, e2, e3, e4, e5, e6, e7, e8⟩ ⟨v0, v1, v2⟩ e0 0 "NotALot" := ⟨XK0, XS0, rfl, xan0, xno0⟩
  have XO0 : OexB K e0 := ⟨⟨_, _, _, _, PySem.F.excBase_ValueError, PySem.F.store_ValueError, xei0, xeo0⟩, xhd0, xsa0, xsb0, xty0, xkc0⟩
  have FX0 := fun_mk (st := s_NotALot___init__) lX0 cX0 kX0
  have T_NotALot : ErrB l.prog w K mg base "NotALot" e0 "given" := ⟨XO0, xno0, PySem.W.mg_of X G en0, ⟨_, _, aX0, xti0, errB_init FX0 sc_NotALot___init__ XO0 xno0 (fun cdv A outer s H E => pss_one (ps_ostB (pv 0) (pv 1))), FX0.binds (fun _ _ _ _ _ _ us hl => match us, hl with | [_, _], _ => rfl)⟩⟩
  have XK2 : ExcK K e2 := ⟨xic2, xga2, xgg2, xsb2, xca2, xcb, xcc, xcm2, xhd2⟩
  have XS2 : IsSort K ⟨e0, e1, e2, e3, e4, e5, e6, e7, e8⟩ e2 2 := ⟨by decide, fun j a h => (match j, a, h with | 0, _, h => by cases h; exact xk2_0 | 1, _, h => by cases h; exact xk2_1 | 2, _, h => by cases h; exact xk2_2 | 3, _, h => by cases h; exact xk2_3 | 4, _, h => by cases h; exact xk2_4 | 5, _, h => by cases h; exact xk2_5 | 6, _, h => by cases h; exact xk2_6 | 7, _, h => by cases h; exact xk2_7 | 8, _, h => by cases h; exact xk2_8)⟩
  have EI_InvalidNumber : SortI K ⟨e0, e1, e2, e3, e4, e5, e6, e7, e8⟩ ⟨v0, v1, v2⟩ e2 2 "InvalidNumber" := ⟨XK2, XS2, rfl, xan2, xno2⟩
  have XO2 : OexB K e2 := ⟨⟨_, _, _, _, PySem.F.excBase_ValueError, PySem.F.store_ValueError, xei2, xeo2⟩, xhd2, xsa2, xsb2, xty2, xkc2⟩
  have FX2 := fun_mk (st := s_InvalidNumber___init__) lX2 cX2 kX2
  have T_InvalidNumber : ErrB l.prog w K mg base "InvalidNumber" e2 "given" := ⟨XO2, xno2, PySem.W.mg_of X G en2, ⟨_, _, aX2, xti2, errB_init FX2 sc_InvalidNumber___init__ XO2 xno2 (fun cdv A outer s H E => pss_one (ps_ostB (pv 0) (pv 1))), FX2.binds (fun _ _ _ _ _ _ us hl => match us, hl with | [_, _], _ => rfl)⟩⟩
  have XK3 : ExcK K e3 := ⟨xic3, xga3, xgg3, xsb3, xca3, xcb, xcc, xcm3, xhd3⟩
  have XS3 : IsSort K ⟨e0, e1, e2, e3, e4, e5, e6, e7, e8⟩ e3 3 := ⟨by decide, fun j a h => (match j, a, h with | 0, _, h => by cases h; exact xk3_0 | 1, _, h => by cases h; exact xk3_1 | 2, _, h => by cases h; exact xk3_2 | 3, _, h => by cases h; exact xk3_3 | 4, _, h => by cases h; exact xk3_4 | 5, _, h => by cases h; exact xk3_5 | 6, _, h => by cases h; exact xk3_6 | 7, _, h => by cases h; exact xk3_7 | 8, _, h => by cases h; exact xk3_8)⟩
  have EI_InvalidRule : SortI K ⟨e0, e1, e2, e3, e4, e5, e6, e7, e8⟩ ⟨v0, v1, v2⟩ e3 3 "InvalidRule" := ⟨XK3, XS3, rfl, xan3, xno3⟩
  have XO3 : OexB K e3 := ⟨⟨_, _, _, _, PySem.F.excBase_ValueError, PySem.F.store_ValueError, xei3, xeo3⟩, xhd3, xsa3, xsb3, xty3, xkc3⟩
  have FX3 := fun_mk (st := s_InvalidRule___init__) lX3 cX3 kX3
  have T_InvalidRule : ErrB l.prog w K mg base "InvalidRule" e3 "given" := ⟨XO3, xno3, PySem.W.mg_of X G en3, ⟨_, _, aX3, xti3, errB_init FX3 sc_InvalidRule___init__ XO3 xno3 (fun cdv A outer s H E => pss_one (ps_ostB (pv 0) (pv 1))), FX3.binds (fun _ _ _ _ _ _ us hl => match us, hl with | [_, _], _ => rfl)⟩⟩
  have XK6 : ExcK K e6 := ⟨xic6, xga6, xgg6, xsb6, xca6, xcb, xcc, xcm6, xhd6⟩
  have XS6 : IsSort K ⟨e0, e1, e2, e3, e4, e5, e6, e7, e8⟩ e6 6 := ⟨by decide, fun j a h => (match j, a, h with | 0, _, h => by cases h; exact xk6_0 | 1, _, h => by cases h; exact xk6_1 | 2, _, h => by cases h; exact xk6_2 | 3, _, h => by cases h; exact xk6_3 | 4, _, h => by cases h; exact xk6_4 | 5, _, h => by cases h; exact xk6_5 | 6, _, h => by cases h; exact xk6_6 | 7, _, h => by cases h; exact xk6_7 | 8, _, h => by cases h; exact xk6_8)⟩
  have EI_InvalidLates : SortI K ⟨e0, e1, e2, e3, e4, e5, e6, e7, e8⟩ ⟨v0, v1, v2⟩ e6 6 "InvalidLates" := ⟨XK6, XS6, rfl, xan6, xno6⟩
  have XO6 : OexB K e6 := ⟨⟨_, _, _, _, PySem.F.excBase_ValueError, PySem.F.store_ValueError, xei6, xeo6⟩, xhd6, xsa6, xsb6, xty6, xkc6⟩
  have FX6 := fun_mk (st := s_InvalidLates___init__) lX6 cX6 kX6
  have T_InvalidLates : ErrB l.prog w K mg base "InvalidLates" e6 "index" := ⟨XO6, xno6, PySem.W.mg_of X G en6, ⟨_, _, aX6, xti6, errB_init FX6 sc_InvalidLates___init__ XO6 xno6 (fun cdv A outer s H E => pss_one (ps_ostB (pv 0) (pv 1))), FX6.binds (fun _ _ _ _ _ _ us hl => match us, hl with | [_, _], _ => rfl)⟩⟩
  have XK8 : ExcK K e8 := ⟨xic8, xga8, xgg8, xsb8, xca8, xcb, xcc, xcm8, xhd8⟩
  have XS8 : IsSort K ⟨e0, e1, e2, e3, e4, e5, e6, e7, e8⟩ e8 8 := ⟨by decide, fun j a h => (match j, a, h with | 0, _, h => by cases h; exact xk8_0 | 1, _, h => by cases h; exact xk8_1 | 2, _, h => by cases h; exact xk8_2 | 3, _, h => by cases h; exact xk8_3 | 4, _, h => by cases h; exact xk8_4 | 5, _, h => by cases h; exact xk8_5 | 6, _, h => by cases h; exact xk8_6 | 7, _, h => by cases h; exact xk8_7 | 8, _, h => by cases h; exact xk8_8)⟩
  have EI_TooMany : SortI K ⟨e0, e1, e2, e3, e4, e5, e6, e7, e8⟩ ⟨v0, v1, v2⟩ e8 8 "TooMany" := ⟨XK8, XS8, rfl, xan8, xno8⟩
  have XO8 : OexB K e8 := ⟨⟨_, _, _, _, PySem.F.excBase_ArithmeticError, PySem.F.store_ArithmeticError, xei8, xeo8⟩, xhd8, xsa8, xsb8, xty8, xkc8⟩
  have FX8 := fun_mk (st := s_TooMany___init__) lX8 cX8 kX8
  have T_TooMany : ErrB l.prog w K mg base "TooMany" e8 "limit" := ⟨XO8, xno8, PySem.W.mg_of X G en8, ⟨_, _, aX8, xti8, errB_init FX8 sc_TooMany___init__ XO8 xno8 (fun cdv A outer s H E => pss_one (ps_ostB (pv 0) (pv 1))), FX8.binds (fun _ _ _ _ _ _ us hl => match us, hl with | [_, _], _ => rfl)⟩⟩
  have p_shares : PropH l.prog w K mg base C "shares" "_shares" := prop_mk F_shares sc_Lot_shares rfl T.cl T.n4 ⟨atPshares, gePshares, taPshares, ⟨_, rePshares_⟩⟩ (fun _ _ _ _ _ _ us hl => match us, hl with | [_], _ => rfl)
  have p_hands : PropH l.prog w K mg base C "hands" "_hands" := prop_mk F_hands sc_Lot_hands rfl T.cl T.n2 ⟨atPhands, gePhands, taPhands, ⟨_, rePhands_⟩⟩ (fun _ _ _ _ _ _ us hl => match us, hl with | [_], _ => rfl)
  have p_span : PropH l.prog w K mg base C "span" "_span" := prop_mk F_span sc_Lot_span rfl T.cl T.n5 ⟨atPspan, gePspan, taPspan, ⟨_, rePspan_⟩⟩ (fun _ _ _ _ _ _ us hl => match us, hl with | [_], _ => rfl)
  have p_names : PropH l.prog w K mg base C "names" "_names" := prop_mk F_names sc_Lot_names rfl T.cl T.n3 ⟨atPnames, gePnames, taPnames, ⟨_, rePnames_⟩⟩ (fun _ _ _ _ _ _ us hl => match us, hl with | [_], _ => rfl)
  have h_cell := has_cell (P := l.prog) (w := w) (base := base) (K := K) D__law_cell B0
  have h_jar := has_jar (P := l.prog) (w := w) (base := base) (K := K) D__law_jar B0 h_cell
  have h_dig := has_dig (P := l.prog) (w := w) (base := base) (K := K) D__law_dig B0
  have h_take := has_take D__law_take B0 h_dig
  have h_numf := has_is_number_from (P := l.prog) (w := w) (base := base) D_is_number_from B
  have h_num := has_is_number D_is_number B h_numf
  have h_name := has_is_name (P := l.prog) (w := w) (base := base) D_is_name B C2
  have h_share := has_is_share D_is_share B C2 h_num
  have h_rnum := has_read_number (P := l.prog) (w := w) (base := base) D__read_number B
  have h_rhands := has_read_hands D__read_hands B C2 h_rnum
  have h_rwork := has_read_work D__read_work B C2 h_rnum h_name h_share
  have h_rworks := has_read_works D__read_works B h_rwork
  have h_span := has_span_of (P := l.prog) (w := w) (base := base) D__span_of B
  have h_total := has_total_of (P := l.prog) (w := w) (base := base) D__total_of B
  have hL : HasM l.prog w K mg base 6 C ["self", "text"] (spInit K C) := ⟨_, _, ⟨mk, aI, iI, kc⟩, ok_init FI T B C2 h_rhands h_rworks h_span h_total, FI.binds (ps := ["self", "text"]) fun _ _ _ _ _ _ us hl => match us, hl with | [_, _], _ => rfl⟩
  have h_qup := has_quotient_up (P := l.prog) (w := w) (base := base) D__quotient_up
  have h_numfA := has_is_number_fromA (P := l.prog) (w := w) (base := base) D_is_number_from B0
  have h_numA := has_is_numberA D_is_number B0 h_numfA
  have Z : LotNo K C := ⟨fun T9 h9 => by
    simp only [plainT, List.mem_cons, List.mem_nil_iff, or_false, List.not_mem_nil] at h9
    rcases h9 with rfl | rfl | rfl | rfl | rfl | rfl | rfl
    · exact no0
    · exact no1
    · exact no2
    · exact no3
    · exact no4
    · exact no5
    · exact no6⟩
  have x_clot := hx_check_lot D_check_lot B T I Z T_NotALot
  have h_begof := has_begin_of (P := l.prog) (w := w) (K := K) (base := base) D_begin_of
  have h_borof := has_border_of D_border_of h_qup
  have h_ovof := has_overlaps_of D_overlaps_of h_begof h_borof
  have h_grpof := has_group_of D_group_border_of h_begof h_borof h_ovof
  have r0 := has_rank0 D__rank_by_nearest h_borof
  have r1 := has_rank1 D__rank_by_overlap h_borof h_ovof
  have r2 := has_rank2 D__rank_by_keen h_borof h_ovof h_grpof
  have r3 := has_rank3 (P := l.prog) (w := w) (K := K) (base := base) D__rank_by_behind
  have d0 : KDct K w AR "nearest" (.ref f28) := ⟨esR, nR, _, kdR.at_, kdR.lit, nsR0, rfl⟩
  have d1 : KDct K w AR "overlap" (.ref f29) := ⟨esR, nR, _, kdR.at_, kdR.lit, nsR1, rfl⟩
  have d2 : KDct K w AR "keen" (.ref f30) := ⟨esR, nR, _, kdR.at_, kdR.lit, nsR2, rfl⟩
  have d3 : KDct K w AR "behind" (.ref f31) := ⟨esR, nR, _, kdR.at_, kdR.lit, nsR3, rfl⟩
  have h_ranks := has_ranks_of D__ranks_of B0 (PySem.W.mg_of X G lkR) d0 d1 d2 d3 nR01 nR02 nR03 nR12 nR13 nR23 (r0.held (PySem.W.mg_of X G a28)) (r1.held (PySem.W.mg_of X G a29)) (r2.held (PySem.W.mg_of X G a30)) (r3.held (PySem.W.mg_of X G a31)) h_begof h_borof
  have hPace : HasM l.prog w K mg base 7 CQ ["self", "share", "rule", "span"] (spInitP K CQ) := ⟨_, _, ⟨mkQ, aQI, iQI, kcQ⟩, ok_initP FQI B0 PC h_begof h_borof h_ranks, FQI.binds (ps := ["self", "share", "rule", "span"]) (fun _ _ _ _ _ _ us hl => match us, hl with | [_, _, _, _], _ => rfl)⟩
  have h_paces := has_paces_of D_paces_of B0 T PC p_shares p_span hPace
  have h_order := has_order_of (P := l.prog) (w := w) (base := base) D_order_of B0 PC
  have m_place := hasD_mk (ps := ["self", "place"]) F_Qplace_behind ⟨aQplace_behind, iQplace_behind, kQplace_behind⟩ (ok_place (P := l.prog) (w := w) (base := base) F_Qplace_behind B0 PC) (fun _ _ _ _ _ _ us hl => match us, hl with | [_, _], _ => rfl)
  have h_play := has_play D_play B0 T PC p_hands p_names h_paces h_order m_place
  have h_isrule := has_is_rule (P := l.prog) (w := w) (base := base) D_is_rule B0 (PySem.W.mg_of X G lkU) (strs_in (ss := ruleW) stU)
  have x_rule := hx_check_rule D_check_rule T_InvalidRule h_isrule
  have h_rules := has_rulesJ (P := l.prog) (w := w) (base := base) (K := K) D__law_rules
  have x_cnum := hx_check_number D_check_number T_InvalidNumber h_numA
  have MT : ∃ t, mg "MOST_LATE_TURN" = some (.int (10 ^ 6) t) := ⟨_, PySem.W.mg_of X G oMOST_LATE_TURN⟩
  have MB : ∃ t, mg "MOST_LATE_BY" = some (.int (10 ^ 6) t) := ⟨_, PySem.W.mg_of X G oMOST_LATE_BY⟩
  have ML : ∃ t, mg "MOST_LATES" = some (.int 200 t) := ⟨_, PySem.W.mg_of X G oMOST_LATES⟩
  have MR : ∃ t, mg "MOST_RUN" = some (.int 2000 t) := ⟨_, PySem.W.mg_of X G oMOST_RUN⟩
  have h_islate := has_is_late D__is_late B0 T p_names MT MB h_numA
  have x_clates := hx_check_lates D_check_lates B0 ML T_InvalidLates h_islate
  have h_delays := has_delays_of (P := l.prog) (w := w) (base := base) D__delays_of B0 T p_names
  have h_sort := has_sort (P := l.prog) (w := w) (base := base) D__law_sort B0 N
  have h_odd := has_oddJ (P := l.prog) (w := w) (base := base) (K := K) D__law_odd h_take
  have MW : ∃ t, mg "MOST_SEARCHED_WORKS" = some (.int 4 t) := ⟨_, PySem.W.mg_of X G oMOST_SEARCHED_WORKS⟩
  have MP : ∃ t, mg "MOST_SEARCHED_PERIOD" = some (.int 6 t) := ⟨_, PySem.W.mg_of X G oMOST_SEARCHED_PERIOD⟩
  have x_run : HasX l.prog w K mg base 11 "run" ["lot", "rule", "lates", "ticks"] (spRunX K C e0 e3 e6 e2) := D_run.hasX (fun _ _ _ _ _ _ us hl => match us, hl with | [_, _, _, _], _ => rfl) fun f fd F => okx_run F MR x_clot x_rule x_clates x_cnum h_delays h_play
  have xq_run : HasQX l.prog w K mg base 11 "run" ["lot", "rule", "lates", "ticks"] ["ticks", "lates", "rule", "lot"] back (spRunX K C e0 e3 e6 e2) := D_run.hasQX ["ticks", "lates", "rule", "lot"] back vals_back (fun _ _ _ _ _ _ us hl => match us, hl with | [_, _, _, _], _ => rfl) fun f fd F => okx_run F MR x_clot x_rule x_clates x_cnum h_delays h_play
  have x_worst : HasX l.prog w K mg base 11 "worst" ["lot", "rule"] (spWorstX K C e0 e3 e8) := D_worst.hasX (fun _ _ _ _ _ _ us hl => match us, hl with | [_, _], _ => rfl) fun f fd F => okx_worst F B0 T p_shares MW MP T_TooMany x_clot x_rule
  have xq_worst : HasQX l.prog w K mg base 11 "worst" ["lot", "rule"] ["rule", "lot"] back (spWorstX K C e0 e3 e8) := D_worst.hasQX ["rule", "lot"] back vals_back (fun _ _ _ _ _ _ us hl => match us, hl with | [_, _], _ => rfl) fun f fd F => okx_worst F B0 T p_shares MW MP T_TooMany x_clot x_rule
  have h_wrong := has_wrong44 (P := l.prog) (w := w) (base := base) (K := K) D__law_wrong B0
  have hm_a : (pl9, (("_law_right" : Str) ++ ".<locals>." ++ "<lambda>")) ∈ (lamT pl9 "_law_right" : List (Addr × Str)) := by simp [lamT]
  have hu_a : ∀ p ∈ (lamT pl9 "_law_right" : List (Addr × Str)), p.1 = pl9 → p.2 = ("_law_right" : Str) ++ ".<locals>." ++ "<lambda>" := fun p hp e => by
    simp only [lamT, List.mem_cons, List.mem_nil_iff, or_false, List.not_mem_nil] at hp
    rcases hp with rfl
    rfl
  have h_right := has_right44 (c := ⟨e0, e1, e2, e3, e4, e5, e6, e7, e8⟩) D__law_right TB__law_right hm_a hu_a B0 T hL N EI_NotALot EI_InvalidRule EI_InvalidLates EI_InvalidNumber EI_TooMany D__law_caught h_sort x_run xq_run x_worst xq_worst h_odd h_take h_rules h_wrong
  exact ok_lawJT (k := 12) F B0 h_jar h_right
theorem all_F {l : PySem.W.OpenLaw} {w : World} {K : PySem.W.Frag} {h : Heap} {mg : Str → Option Value} {fa : Addr} (X : K.In h) (G : h.Ns mainGlobals mg) (hfa : mg "law" = some (.ref fa)) (c : SaysF fnF tfF exF h K) (ct : TabsW tsF w K)
    : ∃ (fd : FuncData) (cs : List (Addr × Addr)) (T : List (Addr × Str)), (∀ p ∈ cs, PySem.W.codeHdIn K p.1 p.2 = true) ∧ (∀ p ∈ cs, K.lookup p.2 = none) ∧ (∀ p ∈ cs, h.get? p.2 = some { cls := .none, data := .fields #[] }) ∧ (∀ p ∈ T, ∃ c, (c, p.1) ∈ cs) ∧ (∀ (s : Shared) (u : Value), BindsTo s fd ⟨[u], []⟩ [("_law_cells", u)]) ∧ ∀ base : Heap, (∀ p ∈ cs, TabB base mg p.1 p.2) → FnG l.prog w K mg base 16 fa fd ["_law_cells"] (spLawT K T) := by
  obtain ⟨_, _, kdR⟩ := ct.dict 0
  have m : exF K = true := c.more
  unfold exF at m
  obtain ⟨m0, m⟩ := He.ba m
  obtain ⟨a0, k0, a1, k1, a2, k2, a3, k3, a4, k4, a5, k5⟩ := of_decide_eq_true m0
  obtain ⟨m1, m⟩ := He.ba m
  obtain ⟨a6, k6, a7, k7, a8, k8, a9, k9, a10, k10, a11, k11⟩ := of_decide_eq_true m1
  obtain ⟨m2, m⟩ := He.ba m
  obtain ⟨a12, k12, a13, k13, a14, k14, a15, k15, a16, k16, a17, k17⟩ := of_decide_eq_true m2
  obtain ⟨m3, m⟩ := He.ba m
  obtain ⟨a18, k18, a19, k19, a20, k20, a21, k21, a22, k22, a23, k23⟩ := of_decide_eq_true m3
  obtain ⟨m4, m⟩ := He.ba m
  obtain ⟨a24, k24, a25, k25, a26, k26, a27, k27, a28, k28, a29, k29⟩ := of_decide_eq_true m4
  obtain ⟨m5, m⟩ := He.ba m
  obtain ⟨a30, k30, a31, k31, a32, k32, a33, k33, a34, k34, a35, k35⟩ := of_decide_eq_true m5
  obtain ⟨m6, m⟩ := He.ba m
  obtain ⟨a36, k36, a37, k37, a38, k38, a39, k39, a40, k40, a41, k41⟩ := of_decide_eq_true m6
  obtain ⟨m7, m⟩ := He.ba m
  obtain ⟨a42, k42, aC, aI, kI, iI, pg, hd, po, sa, mk, kc⟩ := of_decide_eq_true m7
  obtain ⟨m8, m⟩ := He.ba m
  obtain ⟨ca, cb, cc, cm, n0, n1, n2, n3, n4, n5, atPshares, rePshares_⟩ := of_decide_eq_true m8
  obtain ⟨m9, m⟩ := He.ba m
  obtain ⟨gePshares, taPshares, kPshares, atPhands, rePhands_, gePhands, taPhands, kPhands, atPspan, rePspan_, gePspan, taPspan⟩ := of_decide_eq_true m9
  obtain ⟨m10, m⟩ := He.ba m
  obtain ⟨kPspan, atPnames, rePnames_, gePnames, taPnames, kPnames, aCQ, aQI, kQI, iQI, pgQ, hdQ⟩ := of_decide_eq_true m10
  obtain ⟨m11, m⟩ := He.ba m
  obtain ⟨poQ, saQ, mkQ, kcQ, nQ0, nQ1, nQ2, aQplace_behind, kQplace_behind, iQplace_behind, no0, no1⟩ := of_decide_eq_true m11
  obtain ⟨m12, m⟩ := He.ba m
  obtain ⟨no2, no3, no4, no5, no6, lkR, lkU, nsR0, nsR1, nsR2, nsR3, stU⟩ := of_decide_eq_true m12
  obtain ⟨m13, m⟩ := He.ba m
  obtain ⟨nR01, nR02, nR03, nR12, nR13, nR23, en0, en1, en2, en3, en4, en5⟩ := of_decide_eq_true m13
  obtain ⟨m14, m⟩ := He.ba m
  obtain ⟨en6, en7, en8, ev0, ev1, ev2, xcb, xcc, xei0, xeo0, xsa0, xga0⟩ := of_decide_eq_true m14
  obtain ⟨m15, m⟩ := He.ba m
  obtain ⟨xgg0, xca0, xno0, xsb0, xty0, xkc0, xic0, xcm0, xhd0, aX0, kX0, xti0⟩ := of_decide_eq_true m15
  obtain ⟨m16, m⟩ := He.ba m
  obtain ⟨xk0_0, xk0_1, xk0_2, xk0_3, xk0_4, xk0_5, xk0_6, xk0_7, xk0_8, xan0, xei2, xeo2⟩ := of_decide_eq_true m16
  obtain ⟨m17, m⟩ := He.ba m
  obtain ⟨xsa2, xga2, xgg2, xca2, xno2, xsb2, xty2, xkc2, xic2, xcm2, xhd2, aX2⟩ := of_decide_eq_true m17
  obtain ⟨m18, m⟩ := He.ba m
  obtain ⟨kX2, xti2, xk2_0, xk2_1, xk2_2, xk2_3, xk2_4, xk2_5, xk2_6, xk2_7, xk2_8, xan2⟩ := of_decide_eq_true m18
  obtain ⟨m19, m⟩ := He.ba m
  obtain ⟨xei3, xeo3, xsa3, xga3, xgg3, xca3, xno3, xsb3, xty3, xkc3, xic3, xcm3⟩ := of_decide_eq_true m19
  obtain ⟨m20, m⟩ := He.ba m
  obtain ⟨xhd3, aX3, kX3, xti3, xk3_0, xk3_1, xk3_2, xk3_3, xk3_4, xk3_5, xk3_6, xk3_7⟩ := of_decide_eq_true m20
  obtain ⟨m21, m⟩ := He.ba m
  obtain ⟨xk3_8, xan3, xei6, xeo6, xsa6, xga6, xgg6, xca6, xno6, xsb6, xty6, xkc6⟩ := of_decide_eq_true m21
  obtain ⟨m22, m⟩ := He.ba m
  obtain ⟨xic6, xcm6, xhd6, aX6, kX6, xti6, xk6_0, xk6_1, xk6_2, xk6_3, xk6_4, xk6_5⟩ := of_decide_eq_true m22
  obtain ⟨m23, m⟩ := He.ba m
  obtain ⟨xk6_6, xk6_7, xk6_8, xan6, xei8, xeo8, xsa8, xga8, xgg8, xca8, xno8, xsb8⟩ := of_decide_eq_true m23
  obtain ⟨m24, m⟩ := He.ba m
  obtain ⟨xty8, xkc8, xic8, xcm8, xhd8, aX8, kX8, xti8, xk8_0, xk8_1, xk8_2, xk8_3⟩ := of_decide_eq_true m24
  obtain ⟨m25, m⟩ := He.ba m
  obtain ⟨xk8_4, xk8_5, xk8_6, xk8_7, xk8_8, xan8, o0, o1, o2, o3, o4, oMOST_LATES⟩ := of_decide_eq_true m25
  obtain ⟨m26, m⟩ := He.ba m
  obtain ⟨oMOST_RUN, oMOST_LATE_TURN, oMOST_LATE_BY, oMOST_SEARCHED_WORKS, oMOST_SEARCHED_PERIOD, zlen, zrange, zabs, zdivmod, zint, zstr, zbool⟩ := of_decide_eq_true m26
  obtain ⟨m27, m⟩ := He.ba m
  obtain ⟨zrepr, zisinstance, ztuple, zlist, zdict, zzip, zsum, zall, zmax, zmin, zsorted, zset⟩ := of_decide_eq_true m27
  have m28 := m
  obtain ⟨zenumerate, g_gcd, g_lcm⟩ := of_decide_eq_true m28
  obtain ⟨oc0, od0, sl0, kV0, dc0, pm0, an0, cd0, ct0, l0, c0⟩ := c.def_ 0
  obtain ⟨oc1, od1, sl1, kV1, dc1, pm1, an1, cd1, ct1, l1, c1⟩ := c.def_ 1
  obtain ⟨oc2, od2, sl2, kV2, dc2, pm2, an2, cd2, ct2, l2, c2⟩ := c.def_ 2
  obtain ⟨oc3, od3, sl3, kV3, dc3, pm3, an3, cd3, ct3, l3, c3⟩ := c.def_ 3
  obtain ⟨oc4, od4, sl4, kV4, dc4, pm4, an4, cd4, ct4, l4, c4⟩ := c.def_ 4
  obtain ⟨oc5, od5, sl5, kV5, dc5, pm5, an5, cd5, ct5, l5, c5⟩ := c.def_ 5
  obtain ⟨oc6, od6, sl6, kV6, dc6, pm6, an6, cd6, ct6, l6, c6⟩ := c.def_ 6
  obtain ⟨oc7, od7, sl7, kV7, dc7, pm7, an7, cd7, ct7, l7, c7⟩ := c.def_ 7
  obtain ⟨oc8, od8, sl8, kV8, dc8, pm8, an8, cd8, ct8, l8, c8⟩ := c.def_ 8
  obtain ⟨oc9, od9, sl9, kV9, dc9, pm9, an9, cd9, ct9, l9, c9⟩ := c.def_ 9
  obtain ⟨oc10, od10, sl10, kV10, dc10, pm10, an10, cd10, ct10, l10, c10⟩ := c.def_ 10
  obtain ⟨oc11, od11, sl11, kV11, dc11, pm11, an11, cd11, ct11, l11, c11⟩ := c.def_ 11
  obtain ⟨oc12, od12, sl12, kV12, dc12, pm12, an12, cd12, ct12, l12, c12⟩ := c.def_ 12
  obtain ⟨oc13, od13, sl13, kV13, dc13, pm13, an13, cd13, ct13, l13, c13⟩ := c.def_ 13
  obtain ⟨oc14, od14, sl14, kV14, dc14, pm14, an14, cd14, ct14, l14, c14⟩ := c.def_ 14
  obtain ⟨oc15, od15, sl15, kV15, dc15, pm15, an15, cd15, ct15, l15, c15⟩ := c.def_ 15
  obtain ⟨oc16, od16, sl16, kV16, dc16, pm16, an16, cd16, ct16, l16, c16⟩ := c.def_ 16
  obtain ⟨oc17, od17, sl17, kV17, dc17, pm17, an17, cd17, ct17, l17, c17⟩ := c.def_ 17
  obtain ⟨oc18, od18, sl18, kV18, dc18, pm18, an18, cd18, ct18, l18, c18⟩ := c.def_ 18
  obtain ⟨oc19, od19, sl19, kV19, dc19, pm19, an19, cd19, ct19, l19, c19⟩ := c.def_ 19
  obtain ⟨oc20, od20, sl20, kV20, dc20, pm20, an20, cd20, ct20, l20, c20⟩ := c.def_ 20
  obtain ⟨oc21, od21, sl21, kV21, dc21, pm21, an21, cd21, ct21, l21, c21⟩ := c.def_ 21
  obtain ⟨oc22, od22, sl22, kV22, dc22, pm22, an22, cd22, ct22, l22, c22⟩ := c.def_ 22
  obtain ⟨oc23, od23, sl23, kV23, dc23, pm23, an23, cd23, ct23, l23, c23⟩ := c.def_ 23
  obtain ⟨oc24, od24, sl24, kV24, dc24, pm24, an24, cd24, ct24, l24, c24⟩ := c.def_ 24
  obtain ⟨oc25, od25, sl25, kV25, dc25, pm25, an25, cd25, ct25, l25, c25⟩ := c.def_ 25
  obtain ⟨oc26, od26, sl26, kV26, dc26, pm26, an26, cd26, ct26, l26, c26⟩ := c.def_ 26
  obtain ⟨oc27, od27, sl27, kV27, dc27, pm27, an27, cd27, ct27, l27, c27⟩ := c.def_ 27
  obtain ⟨oc28, od28, sl28, kV28, dc28, pm28, an28, cd28, ct28, l28, c28⟩ := c.def_ 28
  obtain ⟨oc29, od29, sl29, kV29, dc29, pm29, an29, cd29, ct29, l29, c29⟩ := c.def_ 29
  obtain ⟨oc30, od30, sl30, kV30, dc30, pm30, an30, cd30, ct30, l30, c30⟩ := c.def_ 30
  obtain ⟨oc31, od31, sl31, kV31, dc31, pm31, an31, cd31, ct31, l31, c31⟩ := c.def_ 31
  obtain ⟨oc32, od32, sl32, kV32, dc32, pm32, an32, cd32, ct32, l32, c32⟩ := c.def_ 32
  obtain ⟨oc33, od33, sl33, kV33, dc33, pm33, an33, cd33, ct33, l33, c33⟩ := c.def_ 33
  obtain ⟨oc34, od34, sl34, kV34, dc34, pm34, an34, cd34, ct34, l34, c34⟩ := c.def_ 34
  obtain ⟨oc35, od35, sl35, kV35, dc35, pm35, an35, cd35, ct35, l35, c35⟩ := c.def_ 35
  obtain ⟨oc36, od36, sl36, kV36, dc36, pm36, an36, cd36, ct36, l36, c36⟩ := c.def_ 36
  obtain ⟨oc37, od37, sl37, kV37, dc37, pm37, an37, cd37, ct37, l37, c37⟩ := c.def_ 37
  obtain ⟨oc38, od38, sl38, kV38, dc38, pm38, an38, cd38, ct38, l38, c38⟩ := c.def_ 38
  obtain ⟨oc39, od39, sl39, kV39, dc39, pm39, an39, cd39, ct39, l39, c39⟩ := c.def_ 39
  obtain ⟨oc40, od40, sl40, kV40, dc40, pm40, an40, cd40, ct40, l40, c40⟩ := c.def_ 40
  obtain ⟨oc41, od41, sl41, kV41, dc41, pm41, an41, cd41, ct41, l41, c41⟩ := c.def_ 41
  obtain ⟨oc42, od42, sl42, kV42, dc42, pm42, an42, cd42, ct42, l42, c42⟩ := c.def_ 42
  obtain ⟨ocI, odI, slI, kVI, dcI, pmI, anI, cdI, ctI, lI, cI⟩ := c.def_ 43
  obtain ⟨ocPshares, odPshares, slPshares, kVPshares, dcPshares, pmPshares, anPshares, cdPshares, ctPshares, lPshares, cPshares⟩ := c.def_ 44
  obtain ⟨ocPhands, odPhands, slPhands, kVPhands, dcPhands, pmPhands, anPhands, cdPhands, ctPhands, lPhands, cPhands⟩ := c.def_ 45
  obtain ⟨ocPspan, odPspan, slPspan, kVPspan, dcPspan, pmPspan, anPspan, cdPspan, ctPspan, lPspan, cPspan⟩ := c.def_ 46
  obtain ⟨ocPnames, odPnames, slPnames, kVPnames, dcPnames, pmPnames, anPnames, cdPnames, ctPnames, lPnames, cPnames⟩ := c.def_ 47
  obtain ⟨ocQI, odQI, slQI, kVQI, dcQI, pmQI, anQI, cdQI, ctQI, lQI, cQI⟩ := c.def_ 48
  obtain ⟨ocQplace_behind, odQplace_behind, slQplace_behind, kVQplace_behind, dcQplace_behind, pmQplace_behind, anQplace_behind, cdQplace_behind, ctQplace_behind, lQplace_behind, cQplace_behind⟩ := c.def_ 49
  obtain ⟨ocX0, odX0, slX0, kVX0, dcX0, pmX0, anX0, cdX0, ctX0, lX0, cX0⟩ := c.def_ 50
  obtain ⟨ocX2, odX2, slX2, kVX2, dcX2, pmX2, anX2, cdX2, ctX2, lX2, cX2⟩ := c.def_ 51
  obtain ⟨ocX3, odX3, slX3, kVX3, dcX3, pmX3, anX3, cdX3, ctX3, lX3, cX3⟩ := c.def_ 52
  obtain ⟨ocX6, odX6, slX6, kVX6, dcX6, pmX6, anX6, cdX6, ctX6, lX6, cX6⟩ := c.def_ 53
  obtain ⟨ocX8, odX8, slX8, kVX8, dcX8, pmX8, anX8, cdX8, ctX8, lX8, cX8⟩ := c.def_ 54
  -- the code objects of the defs that make lambdas
  have zz9 := codeAd_ok l9 rfl c9
  obtain rfl : cd9 = .ref (codeAd K (He.ga K "_law_right")) := zz9
  obtain ⟨fd, hT, bind, hF⟩ := all_mk (l := l) (w := w) (pl9 := tabAd K (codeAd K (He.ga K "_law_right"))) X G hfa a0 l0 c0 k0 a1 l1 c1 k1 a2 l2 c2 k2 a3 l3 c3 k3 a4 l4 c4 k4 a5 l5 c5 k5 a6 l6 c6 k6 a7 l7 c7 k7 a8 l8 c8 k8 a9 l9 c9 k9 a10 l10 c10 k10 a11 l11 c11 k11 a12 l12 c12 k12 a13 l13 c13 k13 a14 l14 c14 k14 a15 l15 c15 k15 a16 l16 c16 k16 a17 l17 c17 k17 a18 l18 c18 k18 a19 l19 c19 k19 a20 l20 c20 k20 a21 l21 c21 k21 a22 l22 c22 k22 a23 l23 c23 k23 a24 l24 c24 k24 a25 l25 c25 k25 a26 l26 c26 k26 a27 l27 c27 k27 a28 l28 c28 k28 a29 l29 c29 k29 a30 l30 c30 k30 a31 l31 c31 k31 a32 l32 c32 k32 a33 l33 c33 k33 a34 l34 c34 k34 a35 l35 c35 k35 a36 l36 c36 k36 a37 l37 c37 k37 a38 l38 c38 k38 a39 l39 c39 k39 a40 l40 c40 k40 a41 l41 c41 k41 a42 l42 c42 k42 aC aI lI cI kI iI pg hd po sa mk kc ca cb cc cm n0 n1 n2 n3 n4 n5 atPshares rePshares_ gePshares taPshares lPshares cPshares kPshares atPhands rePhands_ gePhands taPhands lPhands cPhands kPhands atPspan rePspan_ gePspan taPspan lPspan cPspan kPspan atPnames rePnames_ gePnames taPnames lPnames cPnames kPnames aCQ aQI lQI cQI kQI iQI pgQ hdQ poQ saQ mkQ kcQ nQ0 nQ1 nQ2 aQplace_behind lQplace_behind cQplace_behind kQplace_behind iQplace_behind no0 no1 no2 no3 no4 no5 no6 lkR lkU kdR nsR0 nsR1 nsR2 nsR3 stU nR01 nR02 nR03 nR12 nR13 nR23 en0 en1 en2 en3 en4 en5 en6 en7 en8 ev0 ev1 ev2 xcb xcc xei0 xeo0 xsa0 xga0 xgg0 xca0 xno0 xsb0 xty0 xkc0 xic0 xcm0 xhd0 aX0 lX0 cX0 kX0 xti0 xk0_0 xk0_1 xk0_2 xk0_3 xk0_4 xk0_5 xk0_6 xk0_7 xk0_8 xan0 xei2 xeo2 xsa2 xga2 xgg2 xca2 xno2 xsb2 xty2 xkc2 xic2 xcm2 xhd2 aX2 lX2 cX2 kX2 xti2 xk2_0 xk2_1 xk2_2 xk2_3 xk2_4 xk2_5 xk2_6 xk2_7 xk2_8 xan2 xei3 xeo3 xsa3 xga3 xgg3 xca3 xno3 xsb3 xty3 xkc3 xic3 xcm3 xhd3 aX3 lX3 cX3 kX3 xti3 xk3_0 xk3_1 xk3_2 xk3_3 xk3_4 xk3_5 xk3_6 xk3_7 xk3_8 xan3 xei6 xeo6 xsa6 xga6 xgg6 xca6 xno6 xsb6 xty6 xkc6 xic6 xcm6 xhd6 aX6 lX6 cX6 kX6 xti6 xk6_0 xk6_1 xk6_2 xk6_3 xk6_4 xk6_5 xk6_6 xk6_7 xk6_8 xan6 xei8 xeo8 xsa8 xga8 xgg8 xca8 xno8 xsb8 xty8 xkc8 xic8 xcm8 xhd8 aX8 lX8 cX8 kX8 xti8 xk8_0 xk8_1 xk8_2 xk8_3 xk8_4 xk8_5 xk8_6 xk8_7 xk8_8 xan8 o0 o1 o2 o3 o4 oMOST_LATES oMOST_RUN oMOST_LATE_TURN oMOST_LATE_BY oMOST_SEARCHED_WORKS oMOST_SEARCHED_PERIOD zlen zrange zabs zdivmod zint zstr zbool zrepr zisinstance ztuple zlist zdict zzip zsum zall zmax zmin zsorted zset zenumerate g_gcd g_lcm
  refine ⟨fd, [(codeAd K (He.ga K "_law_right"), tabAd K (codeAd K (He.ga K "_law_right")))], _, ?_, ?_, ?_, hT, bind, hF⟩
  · intro p hp
    simp only [List.mem_cons, List.mem_nil_iff, or_false, List.not_mem_nil] at hp
    rcases hp with rfl
    · exact c.heads _ (List.mem_of_getElem? (i := 0) rfl)
  · intro p hp
    simp only [List.mem_cons, List.mem_nil_iff, or_false, List.not_mem_nil] at hp
    rcases hp with rfl
    · exact c.outs _ (List.mem_of_getElem? (i := 0) rfl)
  · intro p hp
    simp only [List.mem_cons, List.mem_nil_iff, or_false, List.not_mem_nil] at hp
    rcases hp with rfl
    · exact c.empties _ (List.mem_of_getElem? (i := 0) rfl)
end Ts
open PySem PySem.W PyProof.Rows
set_option maxRecDepth 100000 in
set_option maxHeartbeats 0 in
theorem PySem.Challenge.cw_tickshares_k44_lates_refused_holds : PySem.Challenge.rw_tickshares_k44_lates_refused.Holds := by
  w_on; o_law
  refine HandSHeadRun.head_imp (r := Ts.rwF) (q := Ts.vwF) (H := Ts.hookW Ts.asF Ts.fnF Ts.tfF Ts.exF Ts.tsF) (M := 20000) (loose := Ts.nmF) (d := HandSHeadRun.topDef Ts.rwF.prog 89) (kwd := []) Ts.viewW_eq Ts.runF
    (by kernel_rfl) (by kernel_rfl) (by kernel_rfl) (by rfl) (by first | assumption | decide +kernel) (by decide +kernel) ⟨rfl, rfl, rfl, rfl, rfl, by decide +kernel⟩ ?hw ?hc
  case hw => w_witness2
  case hc =>
    refine Ts.walk_GFT (l := PySem.Challenge.rw_tickshares_k44_lates_refused) (k := 16) (x := "_law_cells") rfl (by kernel_rfl) ⟨rfl, by decide, by decide⟩ ?F
    intro w mg fa h Y G hmg
    obtain ⟨K, KX, c, ct⟩ := Y
    have hm : mg ("law" : Str) = some (.ref fa) := by
      have e : (HandSHeadRun.topDef Ts.rwF.prog 89).name = ("law" : Str) := by kernel_rfl
      rw [← e]; exact hmg
    obtain ⟨fd, cs, T, h1, h2, h3, h4, hb, hF⟩ := Ts.all_F KX G hm c ct
    exact ⟨K, fd, cs, T, KX, h1, h2, h3, h4, hb, hF⟩
