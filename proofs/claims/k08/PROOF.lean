import PyProof.Rows.All
import Wide.All
import OpenK.AllK
import Wide.FinOn
import KE.KStateDown
import HandS.ForMost
import HandS.Exc
import HandS.ExcInit
import HandS.ExcField
import HandS.ExcIs
import HandS.ExcValue
import HandS.IsInst
import HandS.Defaults
import HandS.TryMany
import HandS.Wide
import PyProof.ReprRoads
import KE.KExcIs
import HandS.HeadEnd
import HandS.HeadHook1
import HandS.HeadHook2
import HandS.Evl
import HandS.ExcOwn
import HandS.WordsExc
import KE.GoesEnum
import HandS.Walk
import HandS.Deep
import HandS.OwnEq
import HandS.Codes
import HandS.Small
import HandS.Head0
import HandS.Head1
import HandS.Head2
import HandS.TupLe
import HandS.TupAny
import HandS.Style
import HandS.More
import HandS.Conv
import PySem.Challenge.RW_turnedtalk_k08_whole_schedules_judged
set_option Elab.async false
set_option linter.all false
set_option maxRecDepth 100000
set_option maxHeartbeats 4000000
/-! V1: data with dicts, repr -/
namespace V1
open PySem PySem.Spec PyProof.Rows L2
def keyD : Key → PyData
  | .inl i => .int i
  | .inr x => .str x
mutual
/-- a value of the abstract heap is this data: scalars, tracked lists, tuples, dicts -/
inductive Dq (H : Hp) : V → PyData → Prop
  | non : Dq H .non .none
  | bl (b : Bool) : Dq H (.bl b) (.bool b)
  | int (i : Int) : Dq H (.int i) (.int i)
  | str (x : Str) : Dq H (.str x) (.str x)
  | lst {a : Addr} {xs : List V} {ds : List PyData} (at_ : H a = some (.lst xs)) (low : (a == sysModules) = false) (rest : DqAll H xs ds) : Dq H (.ref a) (.list ds)
  | tup {a : Addr} {xs : List V} {ds : List PyData} (at_ : H a = some (.tup xs)) (rest : DqAll H xs ds) : Dq H (.ref a) (.tuple ds)
  | dct {a : Addr} {kvs : List (Key × V)} {ds : List (PyData × PyData)} (at_ : H a = some (.dK kvs)) (rest : DqKv H kvs ds) : Dq H (.ref a) (.dict ds)
inductive DqAll (H : Hp) : List V → List PyData → Prop
  | nil : DqAll H [] []
  | cons {v : V} {vs : List V} {d : PyData} {ds : List PyData} (one : Dq H v d) (more : DqAll H vs ds) : DqAll H (v :: vs) (d :: ds)
inductive DqKv (H : Hp) : List (Key × V) → List (PyData × PyData) → Prop
  | nil : DqKv H [] []
  | cons {k : Key} {v : V} {kvs : List (Key × V)} {d : PyData} {ds : List (PyData × PyData)} (one : Dq H v d) (more : DqKv H kvs ds) : DqKv H ((k, v) :: kvs) ((keyD k, d) :: ds)
end
section
variable {H H' : Hp}
mutual
theorem Dq.same (e : Same H H') : ∀ (d : PyData) (v : V), Dq H v d → Dq H' v d
  | .none, _, h => by cases h; exact .non
  | .bool b, _, h => by cases h; exact .bl b
  | .int i, _, h => by cases h; exact .int i
  | .str x, _, h => by cases h; exact .str x
  | .list ds, _, h => by
    cases h with
    | lst at_ low rest => exact .lst (e _ _ at_) low (DqAll.same e ds _ rest)
  | .tuple ds, _, h => by
    cases h with
    | tup at_ rest => exact .tup (e _ _ at_) (DqAll.same e ds _ rest)
  | .dict ds, _, h => by
    cases h with
    | dct at_ rest => exact .dct (e _ _ at_) (DqKv.same e ds _ rest)
theorem DqAll.same (e : Same H H') : ∀ (ds : List PyData) (vs : List V), DqAll H vs ds → DqAll H' vs ds
  | [], _, h => by cases h; exact .nil
  | d :: ds, _, h => by
    cases h with
    | cons one more => exact .cons (Dq.same e d _ one) (DqAll.same e ds _ more)
theorem DqKv.same (e : Same H H') : ∀ (ds : List (PyData × PyData)) (kvs : List (Key × V)), DqKv H kvs ds → DqKv H' kvs ds
  | [], _, h => by cases h; exact .nil
  | (k, d) :: ds, _, h => by
    cases h with
    | cons one more => exact .cons (Dq.same e d _ one) (DqKv.same e ds _ more)
end
end
section
variable {X : Cx} {pins : List (Addr × Obj)} {σ : L2.St} {H : Hp} {s : Shared}
theorem key_reads {h : Heap} {k : Key} {u : Value} (e : keyIs k u = true) : Reads h u (keyD k) [] := by
  rcases keyIs_shape e with ⟨i, t, rfl, rfl⟩ | ⟨x, t, rfl, rfl⟩
  · exact .int i t
  · exact .str x t
theorem keys_read {P : Program} {w : World} {h : Heap} {H : Hp} : ∀ {es : List DictEntry} {us : List (Key × Value)} {kvs : List (Key × V)} {ds : List (PyData × PyData)}, Pairs (mixKind P w) es us → KV kvs us → DqKv H kvs ds →
    ReadsAll h (es.map (·.key)) (ds.map (·.1)) []
  | _, _, _, _, .nil, r, q => by
    cases r
    cases q
    exact .nil
  | _, _, _, _, .cons he hv more, r, q => by
    cases r with
    | cons r1 r2 =>
      cases q with
      | cons one more' =>
        have z := r1.1
        dsimp only at z
        have h1 := key_reads (h := h) he
        rw [← z] at h1
        exact .cons h1 (keys_read more r2 more')
mutual
theorem Dq.reads (I : Inv X pins σ H s) : ∀ (d : PyData) (v : V) (u : Value), Dq H v d → RelV v u → ∃ as, Reads s.heap u d as ∧ sysModules ∉ as
  | .none, _, _, h, r => by
    cases h
    cases r
    exact ⟨_, .none, List.not_mem_nil⟩
  | .bool b, _, _, h, r => by
    cases h
    cases r
    exact ⟨_, .bool b, List.not_mem_nil⟩
  | .int i, _, _, h, r => by
    cases h
    obtain ⟨t, rfl⟩ := r
    exact ⟨_, .int i t, List.not_mem_nil⟩
  | .str x, _, _, h, r => by
    cases h
    obtain ⟨t, rfl⟩ := r
    exact ⟨_, .str x t, List.not_mem_nil⟩
  | .list ds, _, _, h, r => by
    cases h with
    | lst at_ low rest =>
      cases r
      obtain ⟨_, its, n, rv, ho⟩ := I.hok _ _ at_
      obtain ⟨as, hr, hno⟩ := DqAll.reads I ds _ its rest rv
      refine ⟨_, Reads.list (vs := its.toArray) ho rfl rfl hr, fun hm => ?_⟩
      rcases List.mem_cons.mp hm with e | hm
      · rw [← e] at low
        exact absurd low (by decide)
      · exact hno hm
  | .tuple ds, _, _, h, r => by
    cases h with
    | tup at_ rest =>
      cases r
      obtain ⟨_, its, rv, o, ho, hc, n, hd⟩ := I.hok _ _ at_
      obtain ⟨as, hr, hno⟩ := DqAll.reads I ds _ its rest rv
      exact ⟨_, Reads.tuple ho hc hd hr, hno⟩
  | .dict ds, _, _, h, r => by
    cases h with
    | dct at_ rest =>
      cases r
      obtain ⟨_, low, us, rkv, o, es, ep, ho, hx, hd, _, hp, _⟩ := I.hok _ _ at_
      obtain ⟨as, hr, hno⟩ := DqKv.reads I ds _ us es.toList rest rkv hp
      have hk := keys_read (h := s.heap) hp rkv rest
      refine ⟨_, Reads.dict ho hx.1 hd hk hr, fun hm => ?_⟩
      rcases List.mem_cons.mp hm with e | hm
      · rw [← e] at low
        exact absurd low (by decide)
      · exact hno (by simpa using hm)
theorem DqAll.reads (I : Inv X pins σ H s) : ∀ (ds : List PyData) (vs : List V) (us : List Value), DqAll H vs ds → Vals vs us → ∃ as, ReadsAll s.heap us ds as ∧ sysModules ∉ as
  | [], _, _, h, r => by
    cases h
    cases r
    exact ⟨_, .nil, List.not_mem_nil⟩
  | d :: ds, _, _, h, r => by
    cases h with
    | cons one more =>
      cases r with
      | cons r1 r2 =>
        obtain ⟨as, q1, n1⟩ := Dq.reads I d _ _ one r1
        obtain ⟨bs, q2, n2⟩ := DqAll.reads I ds _ _ more r2
        refine ⟨_, .cons q1 q2, fun hm => ?_⟩
        rcases List.mem_append.mp hm with z | z
        · exact n1 z
        · exact n2 z
theorem DqKv.reads (I : Inv X pins σ H s) : ∀ (ds : List (PyData × PyData)) (kvs : List (Key × V)) (us : List (Key × Value)) (es : List DictEntry), DqKv H kvs ds → KV kvs us → Pairs (mixKind X.prog X.w) es us →
    ∃ as, ReadsAll s.heap (es.map (·.val)) (ds.map (·.2)) as ∧ sysModules ∉ as
  | [], _, _, _, h, r, p => by
    cases h
    cases r
    cases p
    exact ⟨_, .nil, List.not_mem_nil⟩
  | (k, d) :: ds, _, _, _, h, r, p => by
    cases h with
    | cons one more =>
      cases r with
      | cons r1 r2 =>
        cases p with
        | cons he hv hp =>
          have r3 := r1.2
          dsimp only at r3
          rw [← hv] at r3
          obtain ⟨as, q1, n1⟩ := Dq.reads I d _ _ one r3
          obtain ⟨bs, q2, n2⟩ := DqKv.reads I ds _ _ _ more r2 hp
          refine ⟨_, .cons q1 q2, fun hm => ?_⟩
          rcases List.mem_append.mp hm with z | z
          · exact n1 z
          · exact n2 z
end
end
/-! ### repr(x), x data; nothing is being shown meanwhile (gd) -/
section
variable {X : Cx}
theorem call_repr (gd : X.A.guards = some []) (hu : X.A.units + 64 < cLine) :
    CallR X (.builtin "repr") (fun xs H Q => ∃ (v : V) (d : PyData), xs = [v] ∧ Dq H v d ∧ d.showable = true ∧ d.depth ≤ 60 ∧ d.shown.length ≤ sizeLine ∧ Q (.str d.shown) H) := by
  intro pins s σ H xs us Q I r h
  obtain ⟨v, d, rfl, hd, hs, hn, hz, q⟩ := h
  cases r with
  | @cons _ u _ _ ru rn =>
    cases rn
    obtain ⟨as, hr, hno⟩ := Dq.reads I d v u hd ru
    have fin : ∀ h' (t : Tok) tk, (∀ b o, s.heap.get? b = some o → h'.get? b = some o) → EP X pins σ Q (.str d.shown t) { s with heap := h', toks := tk } :=
      fun h' t tk k => ⟨.str d.shown, H, I.kept k, ⟨_, rfl⟩, q⟩
    cases hr with
    | none => exact PySem.P.repr_of_none (fin s.heap _ _ fun _ _ z => z)
    | bool b => exact PySem.P.repr_of_bool (fin s.heap _ _ fun _ _ z => z)
    | int i t => exact PySem.P.repr_of_int (of_decide_eq_true (by simpa [PyData.showable] using hs)) (fin s.heap _ _ fun _ _ z => z)
    | str x t => exact PySem.P.repr_of_str (fin s.heap _ _ fun _ _ z => z) (by simpa [PyData.shown] using hz)
    | list h1 h2 h3 h4 => exact repr_of_reads' (.list h1 h2 h3 h4) hs (fun _ => hno) gd (by omega) (fun _ _ z => z) fin hz
    | tuple h1 h2 h3 h4 => exact repr_of_reads' (.tuple h1 h2 h3 h4) hs (fun _ => hno) gd (by omega) (fun _ _ z => z) fin hz
    | dict h1 h2 h3 h4 h5 => exact repr_of_reads' (.dict h1 h2 h3 h4 h5) hs (fun _ => hno) gd (by omega) (fun _ _ z => z) fin hz
end
end V1

set_option maxHeartbeats 4000000
/-! V1: exceptions as values: made, asked for their class, their field read -/
namespace V1
open PySem PySem.Spec PyProof.Rows L2
def veB : List Value := [.type "ValueError", .type "Exception", .type "BaseException", .type "object"]
/-- the object at C is an exception class over ValueError's maker, its further bases bm -/
def clsB (K : PySem.W.Frag) (C : Addr) (bm : List Value) : Bool := match K.lookup C with
  | some ⟨.type "type", _, .cls cd, sl⟩ => (match sl.toList with
    | [_, _, _, _, some (.builtin n), _] => decide (cd.mro = .ref C :: bm) && (n == "ValueError.__new__" && (cd.hasDict && (!cd.hasDel)))
    | _ => false)
  | _ => false
def oexB (K : PySem.W.Frag) (C : Addr) (bm : List Value) : Bool :=
  clsB K C bm && (decide (PySem.W.findIn K (.ref C) "__setattr__" = some (some (.builtin "object.__setattr__"))) &&
    (decide (PySem.W.findIn K (.ref C) "__getattribute__" = some (some (.builtin "BaseException.__getattribute__"))) &&
      (decide (PySem.W.findIn K (.ref C) "__getattr__" = some none) && (decide (PySem.W.findIn K (.ref C) "__class__" = some (some (.builtin "object.__class__"))) && PySem.W.keepIn K (.ref C)))))
/-- what isinstance asks of object.__class__ -/
def clsAttrB (K : PySem.W.Frag) : Bool := decide (PySem.W.specialIn K (.builtin "object.__class__") "__get__" = some (some (.builtin "getset_descriptor.__get__"))) && decide (PySem.W.takesIn K (.builtin "object.__class__") = some true)
structure ExK (K : PySem.W.Frag) (C : Addr) (bm : List Value) : Prop where
  cls : ∃ nm q N bs sn sub ab col dd k0 k1 k2 k3 k5, K.lookup C = some (excClassObj nm q C N bs bm true sn sub ab col dd k0 k1 k2 k3 k5 "ValueError.__new__")
  sa : PySem.W.findIn K (.ref C) "__setattr__" = some (some (.builtin "object.__setattr__"))
  ga : PySem.W.findIn K (.ref C) "__getattribute__" = some (some (.builtin "BaseException.__getattribute__"))
  gg : PySem.W.findIn K (.ref C) "__getattr__" = some none
  cl : PySem.W.findIn K (.ref C) "__class__" = some (some (.builtin "object.__class__"))
  kp : PySem.W.keepIn K (.ref C) = true
structure ClsAttr (K : PySem.W.Frag) : Prop where
  gs : PySem.W.specialIn K (.builtin "object.__class__") "__get__" = some (some (.builtin "getset_descriptor.__get__"))
  tk : PySem.W.takesIn K (.builtin "object.__class__") = some true
theorem clsAttr_of {K : PySem.W.Frag} (h : clsAttrB K = true) : ClsAttr K := ⟨of_decide_eq_true (Bool.and_eq_true_iff.mp h).1, of_decide_eq_true (Bool.and_eq_true_iff.mp h).2⟩
theorem exK_of {K : PySem.W.Frag} {C : Addr} {bm : List Value} (h : oexB K C bm = true) : ExK K C bm := by
  unfold oexB at h
  simp only [Bool.and_eq_true, decide_eq_true_eq] at h
  obtain ⟨h1, h2, h3, h4, h5, h6⟩ := h
  refine ⟨?_, h2, h3, h4, h5, h6⟩
  unfold clsB at h1
  split at h1
  · rename_i dd cd sl lk
    split at h1
    · rename_i k0 k1 k2 k3 n k5 hs
      simp only [Bool.and_eq_true, decide_eq_true_eq, beq_iff_eq, Bool.not_eq_true'] at h1
      obtain ⟨g1, g2, g3, g4⟩ := h1
      obtain ⟨nm, bs, mro, ns, qn, hd, sn, sb, ab, col, del⟩ := cd
      dsimp only at g1 g3 g4
      subst g1 g2 g3 g4
      obtain ⟨sl⟩ := sl
      dsimp only at hs
      subst hs
      exact ⟨nm, qn, ns, bs, sn, sb, ab, col, dd, k0, k1, k2, k3, k5, lk⟩
    · cases h1
  · cases h1
section
variable {K : PySem.W.Frag} {C D : Addr} {bm : List Value}
theorem ExK.clsIn (T : ExK K C bm) : ∃ cd, PySem.W.clsIn K C = some cd ∧ cd.mro = .ref C :: bm ∧ cd.hasDict = true := by
  obtain ⟨nm, q, N, bs, sn, sub, ab, col, dd, k0, k1, k2, k3, k5, e⟩ := T.cls
  unfold PySem.W.clsIn
  rw [e]
  exact ⟨_, rfl, rfl, rfl⟩
theorem ExK.isCls (T : ExK K C bm) : (PySem.W.clsIn K C).isSome = true := by
  obtain ⟨cd, e, _⟩ := T.clsIn
  rw [e] <;> rfl
theorem ExK.hasDict (T : ExK K C bm) : PySem.W.hasDictIn K C = true := by
  obtain ⟨cd, e, _, h⟩ := T.clsIn
  unfold PySem.W.hasDictIn
  rw [e]
  simpa using h
theorem ExK.ty (T : ExK K C bm) : PySem.W.typeIn K (.ref C) = some (.type "type") := by
  obtain ⟨nm, q, N, bs, sn, sub, ab, col, dd, k0, k1, k2, k3, k5, e⟩ := T.cls
  show (K.lookup C).map (·.cls) = _
  rw [e] <;> rfl
theorem ExK.mro (T : ExK K C bm) (v : Value) : PySem.W.mroIn K C v = some ((Value.ref C :: bm).contains v) := by
  obtain ⟨cd, e, h, _⟩ := T.clsIn
  unfold PySem.W.mroIn
  rw [e, Option.bind_some, h] <;> rfl
theorem ExK.sub (T : ExK K C bm) (v : Value) : PySem.W.subIn K (.ref C) v = some ((Value.ref C :: bm).contains v) := T.mro v
/-- isinstance of the class's objects -/
theorem ExK.kit (T : ExK K C bm) (T' : ExK K D bm') : PySem.W.kitOne K (.ref C) (.ref D) = some (decide (C = D) || bm.contains (.ref D)) := by
  unfold PySem.W.kitOne
  by_cases e : C = D
  · subst e
    rw [if_pos (by simp)]
    simp
  · have ne : ¬ ((Value.ref C == Value.ref D) = true) := by simpa using e
    rw [if_neg ne]
    show (if ((PySem.W.clsIn K D).isSome && PySem.W.typeIn K (.ref D) == some (.type "type")) = true then PySem.W.subIn K (.ref C) (.ref D) else none) = _
    rw [T'.isCls, T'.ty, if_pos (by simp), T.sub, List.contains_cons]
    have e2 : ¬ D = C := fun z => e z.symm
    simp [e, e2]
theorem ExK.kitT (T : ExK K C bm) {n : String} (hm : PySem.W.kitMeta n = true) : PySem.W.kitOne K (.ref C) (.type n) = some (bm.contains (.type n)) := by
  unfold PySem.W.kitOne
  rw [if_neg (show ¬ ((Value.ref C == Value.type n) = true) from by simp)]
  show (if PySem.W.kitMeta n = true then PySem.W.subIn K (.ref C) (.type n) else none) = _
  rw [if_pos hm, T.sub, List.contains_cons]
  simp
/-- an except clause's class -/
theorem ExK.exm (T : ExK K C bm) (T' : ExK K D bm') (hb : (Value.ref D :: bm').contains (.type "BaseException") = true) : PySem.W.exmOne K (.ref C) (.ref D) = some (decide (C = D) || bm.contains (.ref D)) := by
  have h1 : PySem.W.subIn K (.ref D) (.type "BaseException") = some true := by rw [T'.sub, hb]
  have h2 : PySem.W.subIn K (.ref C) (.ref D) = some (decide (C = D) || bm.contains (.ref D)) := by
    rw [T.sub, List.contains_cons]
    by_cases e : C = D
    · subst e; simp
    · have e2 : ¬ D = C := fun z => e z.symm
      simp [e, e2]
  exact PySem.W.exm_ref h1 T'.hasDict T'.ty h2
theorem ExK.oex (T : ExK K C bm) (hr : PySem.HandSPX.refsVE bm = true) (hb : (Value.ref C :: bm).contains (.type "BaseException") = true) : OexC K C := by
  obtain ⟨nm, q, N, bs, sn, sub, ab, col, dd, k0, k1, k2, k3, k5, e⟩ := T.cls
  exact ⟨⟨nm, q, N, bs, bm, sn, sub, ab, col, dd, k0, k1, k2, k3, k5, e, hr⟩, T.sa, by rw [T.sub, hb], T.ty, T.kp⟩
end
/-- at a stands an exception of the class at C; its own fields fs, if it has a dict of them -/
def IsEx (H : Hp) (a C : Addr) : Option (List (Str × V)) → Prop
  | none => H a = some (ExO (.ref C) a)
  | some fs => ∃ dx, H a = some (exo a C (some dx)) ∧ H dx = some (exd dx fs)
theorem IsEx.same {H H' : Hp} {a C : Addr} {o : Option (List (Str × V))} (e : Same H H') (h : IsEx H a C o) : IsEx H' a C o := by
  cases o with
  | none => exact e _ _ h
  | some fs =>
    obtain ⟨dx, h1, h2⟩ := h
    exact ⟨dx, e _ _ h1, e _ _ h2⟩
section
variable {X : Cx} {pins : List (Addr × Obj)} {σ : L2.St} {H : Hp} {s : Shared} {a C : Addr} {o : Option (List (Str × V))}
theorem IsEx.inst (I : Inv X pins σ H s) (h : IsEx H a C o) : ∃ oe od, PySem.W.InstAt s.heap a oe C od ∧ ∀ fs, o = some fs → ∃ (od' : Obj) (mA : Str → Option Value), od = some od' ∧ (∀ n, PySem.W.lookIn n od' = some (mA n)) ∧ ∀ f, RelO (fs.lookup f) (mA f) := by
  cases o with
  | none =>
    obtain ⟨⟨oe, vs, he, hz, hd, _⟩, _, _⟩ := I.hok a _ h
    refine ⟨oe, none, ⟨he, hz.1, by unfold PySem.W.notCls; rw [hd] <;> rfl, by rw [hz.2]; exact True.intro⟩, fun fs z => nomatch z⟩
  | some fs =>
    obtain ⟨dx, h1, h2⟩ := h
    obtain ⟨t1, he⟩ := exo_at I.hok h1
    obtain ⟨mA, hns, rel⟩ := exd_at I.hok h2
    obtain ⟨od, ho, hl⟩ := lookIn_ns hns
    refine ⟨_, some od, ⟨he, rfl, rfl, ho⟩, fun fs' z => ?_⟩
    cases z
    exact ⟨od, mA, rfl, fun n => hl n, rel⟩
end
/-! ### isinstance(e, c) -/
def rIsiX (K : PySem.W.Frag) : List V → Hp → VK → Prop := fun xs H Q => ∃ (a C : Addr) (o : Option (List (Str × V))) (bm : List Value) (c : V) (u : Value) (b : Bool), xs = [.ref a, c] ∧ IsEx H a C o ∧ ExK K C bm ∧ ClsAttr K ∧
  (Value.ref C :: bm).contains (.type "BaseException") = true ∧ (Value.ref C :: bm).contains (.type "object") = true ∧ ClsV c u ∧ PySem.W.kitOne K (.ref C) u = some b ∧ Q (.bl b) H
theorem call_isiX {X : Cx} : CallR X (.builtin "isinstance") (rIsiX X.K) := by
  intro pins s σ H xs us Q I r h
  obtain ⟨a, C, o, bm, c, u, b, rfl, hx, T, cA, hB, hO, k, e, q⟩ := h
  obtain ⟨w1, w2, rfl, r1, r2⟩ := vals2 r
  obtain rfl : w1 = Value.ref a := r1
  have e2 := k.eq r2
  subst e2
  obtain ⟨oe, od, J, _⟩ := hx.inst I
  exact PySem.W.kia_one (PySem.W.kitx_exc T.isCls T.ga T.gg (by rw [T.sub, hB]) T.cl cA.gs cA.tk (by rw [T.mro, hO])) I.kIn J e (fun z => nomatch z) fun tk => ⟨.bl b, H, I.tok tk, rfl, q⟩
/-! ### e.f of such -/
def tEf (K : PySem.W.Frag) (f : Str) (te : TE) : TE := fun σ H Q => te σ H fun x H1 => ∃ (a C : Addr) (fs : List (Str × V)) (bm : List Value) (v : V), x = .ref a ∧ IsEx H1 a C (some fs) ∧ ExK K C bm ∧ (Value.ref C :: bm).contains (.type "BaseException") = true ∧
  PySem.W.findIn K (.ref C) f = some none ∧ fs.lookup f = some v ∧ Q v H1
theorem pe_ef {X : Cx} {e : Expr} {te : TE} {pos : Pos} {n : Str} (he : PE X e te) (hb : attributeBase e n X.env (eval e X.env) = eval e X.env := by rfl) : PE X (.Attribute e n pos) (tEf X.K n te) := by
  refine ⟨fun pins s σ H Q I h => ?_⟩
  refine attr_of hb (thn (he.run pins s σ H _ I h) fun u s1 hh => ?_)
  obtain ⟨x, H1, J1, rx, a, C, fs, bm, v, rfl, hx, T, hB, hno, hl, q⟩ := hh
  obtain rfl : u = Value.ref a := rx
  obtain ⟨oe, od, J, hf⟩ := hx.inst J1
  obtain ⟨od', mA, rfl, look, rel⟩ := hf fs rfl
  obtain ⟨u, hu, ru⟩ := RelO.some_of (v := v) (o := mA n) (by rw [← hl]; exact rel n)
  exact HandSPX.exc_get J1.kIn J T.ga T.gg (by rw [T.sub, hB]) (PySem.W.findObj_own T.hasDict hno rfl (by rw [look, hu])) (handed_of ru) ⟨v, H1, J1.tok _, ru, q⟩
/-! ### C(e, ..) with an own __init__, kept as a value -/
def tMkV (C : Addr) (sp : Sp) (dvs : List V) (ta : TA) : TE := fun σ H Q => ta σ H fun vs H1 => vs.length ≤ 1000 ∧ ∀ a, H1 a = none → sp (.ref a :: (vs ++ dvs)) (upd H1 a (exo a C none)) (fun v H2 => v = .non ∧ Q (.ref a) H2) (fun _ _ _ => False)
theorem pe_mkV {X : Cx} {CX : CXT} {x : Str} {C fI : Addr} {k : Nat} {fd : FuncData} {ps : List Str} {sp : Sp} {ds : List Value} {dvs : List V} {e : Expr} {es : List Expr} {ta : TA} {p pos : Pos} (T : OexC X.K C)
    (iC : PySem.W.findIn X.K (.ref C) "__init__" = some (some (.ref fI))) (tI : PySem.W.typeIn X.K (.ref fI) = some (.type "function"))
    (F1 : FnOk X.prog X.w X.K X.mg X.base CX k fI fd ps sp) (hr : Room (k + 1) X.A) (hb : Binds X.K fd ps ds) (hd : Vals dvs ds) (hx : Passes CX X (fun _ _ _ => False)) (hg : Gl X x) (hm : X.mg x = some (.ref C)) (ha : PA X (e :: es) ta)
    (hdb : (x == ("__debug__" : Str)) = false := by decide) (he : starEach (e :: es) X.env = (false, eval e X.env) :: starEach es X.env := by rfl) (hpl : (backTo pos (starEach es X.env)).any (·.1) = false := by rfl) :
    PE X (.Call (.Name x p) (e :: es) [] pos) (tMkV C sp dvs ta) := by
  refine ⟨fun pins s σ H Q I h => ?_⟩
  obtain ⟨nm, q, N, bs, bm, sn, sub, ab, col, dd, k0, k1, k2, k3, k5, hC, hbm⟩ := T.cls
  refine wpAny_Call_Name_kw (ld_glob I hg hm ?_ hdb)
  refine PySem.W.callWith_K (h₀ := X.base) I.ok.mod.kin T.kC (thn (ha.run pos pins s σ H _ I h) fun us st hh => ⟨hh.choose_spec.choose_spec.1.kIn, ?_⟩) he hpl
  obtain ⟨vs, H1, J, rv, hz, qq⟩ := hh
  show wpAny _ _ (call (.ref C) us) _ _ _
  obtain ⟨hp, g, dr, tk, os⟩ := st
  let n := hp.objs.size
  have nn : H1 (n + 1) = none := J.hok.fresh (Nat.le_succ n)
  have go := qq (n + 1) nn
  let hp2 := (hp.push (PySem.W.kdv_tup us)).push (PySem.HandSPX.excO C n)
  have kk : ∀ b ob, hp.get? b = some ob → hp2.get? b = some ob := fun b ob z => Heap.get?_push_of_some _ (Heap.get?_push_of_some _ z)
  have top : hp2.get? (n + 1) = some (PySem.HandSPX.excO C n) := by
    show ((hp.push (PySem.W.kdv_tup us)).push (PySem.HandSPX.excO C hp.objs.size)).get? (hp.objs.size + 1) = _
    heap_get
  have J2 : Inv X pins σ (upd H1 (n + 1) (exo (n + 1) C none)) ⟨hp2, g, dr, tk, os⟩ := J.laid (t' := tk) (a := n + 1) (h' := hp2) kk (Nat.le_succ n) (exo_ok top)
  have rr : Vals (V.ref (n + 1) :: (vs ++ dvs)) (Value.ref (n + 1) :: (us ++ ds)) := .cons rfl (rv.append hd)
  have len : (Value.ref (n + 1) :: us ++ ds).length = ps.length := (rr.length.symm.trans (F1.len _ _ _ _ go))
  have short : us.length ≤ sizeLine := by
    have z := Paired.length rv
    rw [sizeLine_eq]
    omega
  refine wpAny_call (PySem.HandSPX.call_own F.excBase_ValueError (fun Y => PySem.HandSPX.refsVE_contains Y bm hbm) (J.kIn _ _ hC) (PySem.W.looks_findIn J.kIn iC) (fun self => PySem.W.bind_fn J.kIn self tI) short
    (codeAny_mono (F1.run _ X.stack _ _ ⟨Value.ref (n + 1) :: us, []⟩ (Value.ref (n + 1) :: (us ++ ds)) _ _ (fun _ _ _ => False) (hr.make C us []) (J2.env0.make C us []) (hb _ (Value.ref (n + 1) :: us) J2.kIn len) rr go) fun r s' hq => ?_))
  cases r with
  | error er => exact hx pins σ _ _ er s' J2 hq
  | ok fl =>
    cases fl with
    | ret u =>
      obtain ⟨v, H2, o2, b2, un2, ok2, rv2, ev, qv⟩ := hq
      subst ev
      refine ⟨rv2, .ref (n + 1), H2, ?_, rfl, qv⟩
      obtain ⟨h', g', d', t', os'⟩ := s'
      exact J.call' (ch := []) o2 (Un.trans (Un.laid kk (Nat.le_succ n) nn) un2) ok2 b2 (fun b z => absurd z (by simp))
    | next => exact False.elim hq
    | brk => exact False.elim hq
    | cont => exact False.elim hq
/-! ### C(), an own exception class without own __init__ -/
def tMk0 (C : Addr) : TE := fun _ H Q => ∀ a, H a = none → Q (.ref a) (upd H a (ExO (.ref C) a))
theorem pe_mk0 {X : Cx} {C : Addr} {bmB : List Value} {B newId initId : String} {x : Str} {p pos : Pos} (F : ExcBaseFacts B newId initId bmB) (q : PySem.W.excIn X.K C bmB newId = true) (gC : X.mg x = some (.ref C)) (kC : PySem.W.keepIn X.K (.ref C) = true) (hg : Gl X x)
    (hdb : (x == ("__debug__" : Str)) = false := by decide) : PE X (.Call (.Name x p) [] [] pos) (tMk0 C) := by
  refine ⟨fun pins s σ H Q I h => ?_⟩
  refine wpAny_Call_Name_kw (ld_glob I hg gC ?_ hdb)
  refine PySem.W.callWith_K0 I.kIn kC ?_
  obtain ⟨bm, N, nm, qn, bs, hdct, sn, sub, ab, col, dd, k0, k1, k2, k3, k5, mN, hC, hN, hni, T⟩ := exc_obj I.kIn q
  refine wpAny_call_exc_subT F T hC hN hni (fun h' a hm => ?_) (Nat.zero_le _)
  have hn : H a = none := I.hok.gone hm.new
  obtain ⟨t, ht, _, _⟩ := hm.there
  exact ⟨.ref a, _, I.laidN hm.keeps hm.new hn (exO_ok ht ⟨rfl, rfl⟩ rfl rfl rfl (show 4 < 6 by decide)), rfl, h a hn⟩
end V1

set_option maxHeartbeats 4000000
/-! V1: try with any number of except clauses, each with or without a name -/
namespace V1
open PySem PySem.Spec PyProof.Rows L2
/-- a clause: its class, the slot of its name if it has one, its suite's reading -/
abbrev Cl : Type := Value × Option Nat × (Addr → Value → Option Addr → TS)
/-- where a suite's ends lead once the clause's name is let go of -/
def offD (i : Nat) (D : Ends) : Ends := { nx := fun σ H => D.nx (σ.set i none) H, rt := D.rt, bk := fun σ H => D.bk (σ.set i none) H, ct := fun σ H => D.ct (σ.set i none) H }
def suiteD (D : Ends) (a : Addr) (cls : Value) (d : Option Addr) (ts : Addr → Value → Option Addr → TS) (σ : L2.St) (H : Hp) : Option Nat → Prop
  | none => ts a cls d D σ H
  | some i => ts a cls d (offD i D) (σ.set i (some (.ref a))) H
/-- what the clauses wish of an exception that leaves the body -/
def wCl (K : PySem.W.Frag) (Wout : WX) (D : Ends) : List Cl → WX
  | [] => Wout
  | (c, o, ts) :: more => fun cls d σ H => ∃ yes, PySem.W.exmOne K cls c = some yes ∧ (yes = true → ∀ a, H a = none → suiteD D a cls d ts σ H o) ∧ (yes = false → wCl K Wout D more cls d σ H)
inductive Hds (X : Cx) : List ExceptHandler → List Cl → Prop
  | nil : Hds X [] []
  | plain {x : Str} {c : Value} {ts : Addr → Value → Option Addr → TS} {st : Stmt} {sts : List Stmt} {p1 p2 : Pos} {hds : List ExceptHandler} {l : List Cl} (nm : Names X x c)
      (su : ∀ (a : Addr) (oe : Obj) (cls : Value) (d : Option Addr) (pn : List (Addr × Obj)), Zc cls d oe → (∃ vs, oe.data = .fields vs) → PSs (X.suite a ((a, oe) :: pn)) (st :: sts) (ts a cls d)) (more : Hds X hds l) :
      Hds X (.ExceptHandler (some (.Name x p1)) none (st :: sts) p2 :: hds) ((c, none, ts) :: l)
  | named {x n : Str} {i : Nat} {c : Value} {ts : Addr → Value → Option Addr → TS} {st : Stmt} {sts : List Stmt} {p1 p2 : Pos} {hds : List ExceptHandler} {l : List Cl} (at_ : X.N[i]? = some n) (loc : X.env.kindOf n = some .local) (nm : Names X x c)
      (su : ∀ (a : Addr) (oe : Obj) (cls : Value) (d : Option Addr) (pn : List (Addr × Obj)), Zc cls d oe → (∃ vs, oe.data = .fields vs) → PSs (X.suite a ((a, oe) :: pn)) (st :: sts) (ts a cls d)) (more : Hds X hds l) :
      Hds X (.ExceptHandler (some (.Name x p1)) (some n) (st :: sts) p2 :: hds) ((c, some i, ts) :: l)
/-- an exception of the body that was met: all that the clauses may lean on -/
theorem ps_try_cl {X : Cx} {body : List Stmt} {hd : ExceptHandler} {hds : List ExceptHandler} {l : List Cl} {pos : Pos} {tb : WX → TS} {Wout : WX} (stk : X.stack = X.env :: X.outer) (fr : X.env.frame = some X.env.locals) (nd : X.N.Nodup) (tk : Takes X Wout)
    (hb : ∀ (W : WX) (pn : List (Addr × Obj)) (xe : Value → Shared → Prop), Takes (X.tr pn xe) W → PassesOwn (model X.prog X.w) X.A X.env xe → PSs (X.tr pn xe) body (tb W))
    (cl : Hds X (hd :: hds) l) : PS X (.Try body (hd :: hds) [] [] pos) (fun D σ H => tb (wCl X.K Wout D l) D σ H) := by
  refine ⟨fun pins s σ H D I go => ?_⟩
  have ok := I.ok
  have frames : X.A.frames = some (X.env :: X.outer) := by
    rw [ok.frames, stk]
  refine wpAny_Try_except ?_
  refine wpAny_mono ((hb (wCl X.K Wout D l) (X.pn ++ pins) (fun e z1 => wpAny (model X.prog X.w) X.A (noteFrame e X.env)
    (fun _ z2 => wpAny (model X.prog X.w) X.A (setFlight e none) (fun _ z3 => wpAny (model X.prog X.w) X.A (handleBy e X.env (hd :: hds)) (SP X pins D) X.xe z3) X.xe z2) X.xe z1)
    (fun u sE met => ?_) PassesOwn.looking).run [] s σ H D (I.toTry _) go) (fun f s1 out => ?_) (fun _ _ he => he)
  · obtain ⟨a, B, sI, pins', σ', H', cls, d, rfl, J', nb, up, sky, na, os, ag, wish⟩ := met
    have J : Inv X pins σ' H' sI := J'.ofTry ok
    have air : Sky B (X.env :: X.outer) a (Zc cls d) X.env.locals sE.heap := by
      rw [← stk]
      exact sky
    show wpAny (model X.prog X.w) X.A (noteFrame (.ref a) X.env) _ _ _
    refine Sky.land Zc.steady frames fr air fun h3 fl up3 => ?_
    have J3 : Inv X pins σ' H' { sE with heap := h3 } := J.landed nb fl.1 (up.trans up3) os ag
    obtain ⟨oe, vs, there, zc, dat⟩ := fl.there
    have off : a ∉ frs (X.env :: X.outer) := fun hm => by
      obtain ⟨_, ob, eo, hnf⟩ := fl.2.2.1.mem hm
      rw [there] at eo
      cases eo
      exact hnf _ dat
    have offL : a ≠ X.env.locals := fun z => off (List.mem_filterMap.mpr ⟨X.env, List.mem_cons_self, by rw [fr, z]⟩)
    have offF : a ∉ X.fs := fun hm => by
      obtain ⟨en, hen, q⟩ := List.mem_filterMap.mp hm
      exact off (List.mem_filterMap.mpr ⟨en, List.mem_cons_of_mem _ hen, q⟩)
    have S3 := J3.suite there dat na offL offF
    -- one clause's test
    have ask : ∀ {x : Str} {c : Value} {p1 : Pos} {Q : Value → Shared → Prop} {E : Value → Shared → Prop}, Names X x c → Q c { sE with heap := h3 } →
        wpAny (model X.prog X.w) (X.A.mark (some (.ref a))) (eval (.Name x p1) X.env) Q E { sE with heap := h3 } := fun {x c p1 Q E} nm q => by
      obtain ⟨g, nodebug, m | ⟨m, bv, notname⟩⟩ := nm
      · exact ld_glob (X := X.suite a ((a, oe) :: (X.pn ++ pins))) S3 g m q nodebug
      · exact ld_blt (X := X.suite a ((a, oe) :: (X.pn ++ pins))) S3 g m bv q notname nodebug
    have typ : PySem.W.Looks (model X.prog X.w) h3 (typeOf (.ref a)) cls := fun _ _ _ z k q => wpAny_typeOf_ref (k _ _ there) (by rw [zc.1]; exact q)
    have through : ∀ {hs : List ExceptHandler} {ls : List Cl}, Hds X hs ls → wCl X.K Wout D ls cls d σ' H' →
        wpAny (model X.prog X.w) X.A (handleBy (.ref a) X.env hs) (SP X pins D) X.xe { sE with heap := h3 } := by
      intro hs ls hk
      induction hk with
      | nil =>
        intro w
        refine wpAny_handleBy_nil ?_
        obtain ⟨_, _, _, ob, us, T, _, _, e1, _, e3, e4, _⟩ := id fl
        unfold PySem.passOn
        refine wpAny_bind (wpAny_field e1 e3 e4 ?_)
        rw [if_neg (show ¬ ((Value.ref T == Value.none) = true) from by simp)]
        have last : wpAny (model X.prog X.w) X.A (setFlight (.ref a) X.env.frame) (fun _ z => wpAny (model X.prog X.w) X.A (throw (.ref a) : Sem Flow) (SP X pins D) X.xe z) X.xe { sE with heap := h3 } := by
          rw [fr]
          refine HandSPX.setFlight_upZ fl fun h4 held up4 => wpAny_throw (tk _ _ ?_)
          refine ⟨a, B, sI, pins, σ', H', cls, d, rfl, J, nb, (up.trans up3).trans up4, .inr (.inr ?_), na, os, ag, w⟩
          rw [stk]
          exact held
        first
          | exact wpAny_bind (wpAny_pure (wpAny_bind last))
          | exact wpAny_bind last
      | @plain x c ts st sts p1 p2 hs2 ls2 nm su more ih =>
        intro w
        obtain ⟨yes, hy, onYes, onNo⟩ := w
        refine wpAny_handleBy_cons (codeAny_handlers_test ?_) (by intro q; cases q)
        refine ask nm ((PySem.W.exm_one (M := model X.prog X.w) J3.kIn typ hy).here ?_)
        cases yes with
        | false => exact ih (onNo rfl)
        | true =>
          refine codeAny_handlers_suite ?_
          refine HandSPX.lands_againZ fl fun h4 fl4 up4 => ?_
          have J4 : Inv X pins σ' H' { sE with heap := h4 } := J.landed nb fl4.1 ((up.trans up3).trans up4) os ag
          obtain ⟨oe4, vs4, th4, zc4, dat4⟩ := fl4.there
          refine wpAny_mono ((su a oe4 cls d (X.pn ++ pins) zc4 ⟨_, dat4⟩).run [] _ _ H' _ (J4.suite th4 dat4 na offL offF) (onYes rfl a na)) (fun f s6 out => ?_) (fun _ _ z => False.elim z)
          cases f with
          | next => exact let ⟨_, _, S6, q6⟩ := out; ⟨_, _, S6.unsuite ok, q6⟩
          | brk => exact let ⟨_, _, S6, q6⟩ := out; ⟨_, _, S6.unsuite ok, q6⟩
          | cont => exact let ⟨_, _, S6, q6⟩ := out; ⟨_, _, S6.unsuite ok, q6⟩
          | ret u => exact let ⟨_, _, _, S6, r6, q6⟩ := out; ⟨_, _, _, S6.unsuite ok, r6, q6⟩
      | @named x n i c ts st sts p1 p2 hs2 ls2 at_ loc nm su more ih =>
        intro w
        obtain ⟨yes, hy, onYes, onNo⟩ := w
        refine wpAny_handleBy_cons (codeAny_handlers_test ?_) (by intro q; cases q)
        refine ask nm ((PySem.W.exm_one (M := model X.prog X.w) J3.kIn typ hy).here ?_)
        cases yes with
        | false => exact ih (onNo rfl)
        | true =>
          refine codeAny_handlers_suite_as ?_
          refine HandSPX.lands_againZ fl fun h4 fl4 up4 => ?_
          have J4 : Inv X pins σ' H' { sE with heap := h4 } := J.landed nb fl4.1 ((up.trans up3).trans up4) os ag
          obtain ⟨oe4, vs4, th4, zc4, dat4⟩ := fl4.there
          refine store_ok (X := X.suite a ((a, oe4) :: (X.pn ++ pins))) (v := .ref a) (J4.suite th4 dat4 na offL offF) nd at_ (.inl loc) rfl (fun s5 S5 => ?_) (.inr loc)
          refine wpAny_mono ((su a oe4 cls d (X.pn ++ pins) zc4 ⟨_, dat4⟩).run [] s5 _ H' _ S5 (onYes rfl a na)) (fun f s6 out => ?_) (fun _ _ z => False.elim z)
          have gone : ∀ {σ6 : L2.St} {H6 : Hp} {Q : Shared → Prop}, Inv (X.suite a ((a, oe4) :: (X.pn ++ pins))) [] σ6 H6 s6 → (∀ s7, Inv X pins (σ6.set i none) H6 s7 → Q s7) →
              wpAny (model X.prog X.w) X.A (do bindName X.env n .none; unbindBehindTheSuite X.env n p2) (fun _ s7 => Q s7) X.xe s6 := fun S6 hq => gone_ok (S6.unsuite ok) nd at_ loc hq
          cases f with
          | next => exact let ⟨_, _, S6, q6⟩ := out; gone S6 fun s7 J7 => ⟨_, _, J7, q6⟩
          | brk => exact let ⟨_, _, S6, q6⟩ := out; gone S6 fun s7 J7 => ⟨_, _, J7, q6⟩
          | cont => exact let ⟨_, _, S6, q6⟩ := out; gone S6 fun s7 J7 => ⟨_, _, J7, q6⟩
          | ret u => exact let ⟨_, _, _, S6, r6, q6⟩ := out; gone S6 fun s7 J7 => ⟨_, _, _, J7, r6, q6⟩
    exact through cl wish
  · cases f with
    | next => exact let ⟨_, _, J, q⟩ := out; wpAny_execs_nil ⟨_, _, J.ofTry ok, q⟩
    | brk => exact let ⟨_, _, J, q⟩ := out; ⟨_, _, J.ofTry ok, q⟩
    | cont => exact let ⟨_, _, J, q⟩ := out; ⟨_, _, J.ofTry ok, q⟩
    | ret u => exact let ⟨_, _, _, J, r, q⟩ := out; ⟨_, _, _, J.ofTry ok, r, q⟩
end V1

set_option maxHeartbeats 4000000
/-! V1: the law's own def, run at the caller of all (nothing is being shown there), and the end over a head by facts -/
namespace V1
open PySem PySem.Spec PyProof.Rows L2
section
variable {P : Program} {w : World} {K : PySem.W.Frag} {mg : Str → Option Value} {base : Heap} {k : Nat} {f : Addr} {fd : FuncData} {x : Str} {sp : Sp}
/-- the law's def keeps sp, called where nothing is being shown; nothing leaves it -/
def LawOk (P : Program) (w : World) (K : PySem.W.Frag) (mg : Str → Option Value) (base : Heap) (f : Addr) (fd : FuncData) (x : Str) (sp : Sp) : Prop :=
  ∀ (s : Shared) (H : Hp) (u : Value) (v : V) (Q : VK), Env0 P w K mg base callerA [] s H → BindsTo s fd ⟨[u], []⟩ [(x, u)] → RelV v u → sp [v] H Q (fun _ _ _ => False) →
    codeAny (model P w) callerA (.call (.ref f) ⟨[u], []⟩) (CR CX0 [] P w H s Q (fun _ _ _ => False)) s
theorem lawOk_of {name qual : Str} {params : Arguments} {body : List Stmt} {scope : Scope} {N : List Str} (F : FunD K name qual params body scope [] [] f fd) (S : FnScope N [x] scope)
    (room : Room (k + 1) callerA)
    (go : ∀ (cdv : Value) (s : Shared) (H : Hp) (v : V) (Q : VK), Room k (callerA.deeper (envOfC qual scope s.heap.objs.size f cdv)) → (callerA.deeper (envOfC qual scope s.heap.objs.size f cdv)).guards = some [] → sp [v] H Q (fun _ _ _ => False) →
      ∃ t, PSs (cxOf CX0 P w K mg base N qual scope f cdv callerA [] s H (fun _ _ _ => False)) body t ∧ t { nx := fun _ H' => Q .non H', rt := Q } (start N [v]) H) :
    LawOk P w K mg base f fd x sp := by
  intro s H u v Q e0 bind rv hs
  obtain ⟨oc, od, dV, kV, doc, pm, an, cdv, ct, osl, rfl, lk, cd, _, _⟩ := F.ex
  have inK : K.In s.heap := e0.mod.kin.keeps fun b o e => (e0.bs b o e).1
  have free : s.heap.NoLimit := e0.mod.nolimit.keeps fun b o e => (e0.bs b o e).1
  have kinds : ∀ y ∈ [(x, u)], scope.names.lookup y.1 = some .local ∨ (scope.names.lookup y.1 = some .cell ∧ ((cellsFrom (s.heap.objs.size + 1) scope.names []).lookup y.1).isSome = true) := by
    intro y hy
    obtain rfl := List.mem_singleton.mp hy
    rcases S.par x (List.mem_singleton.mpr rfl) with q | q
    · exact .inl q
    · exact .inr ⟨q, PySem.W.cellsFrom_some _ _ _ (.inl q)⟩
  refine codeAny_call_function room.depth (inK _ _ lk) rfl S.co S.gen rfl (PySem.W.codeRec_of inK cd) (bind _ _ _ _ ?_)
  refine wpAny_newFunctionEnv_cells S.kind kinds fun env he s1 z => ?_
  subst he
  refine ⟨free.keeps z.toInCall.keep, codeAny_func ?_⟩
  obtain ⟨t, ht, hq⟩ := go cdv s H v Q (room.deeper _) rfl hs
  have I : Inv (cxOf CX0 P w K mg base N qual scope f cdv callerA [] s H (fun _ _ _ => False)) [] (start N [v]) H s1 := inv_start (us := [u]) (ps := [x]) S room.hd e0 rfl (.cons rv .nil) z
  refine wpAny_mono (ht.run [] s1 _ H _ I hq) (fun fl s' out => ?_) fun _ _ z => z
  cases fl with
  | ret u' => exact let ⟨v', _, H', J, r', q⟩ := out; ⟨v', H', J.os, J.bare, J.base, J.hok, r', q⟩
  | next => exact let ⟨_, H', J, q⟩ := out; ⟨.non, H', J.os, J.bare, J.base, J.hok, rfl, q⟩
  | brk => exact let ⟨_, _, _, q⟩ := out; q.elim
  | cont => exact let ⟨_, _, _, q⟩ := out; q.elim
end
/-- from the state at the claim's call -/
theorem law_run {P : Program} {w : World} {K : PySem.W.Frag} {mg mb : Str → Option Value} {fa a : Addr} {fd : FuncData} {x : Str} {sp : Sp} {s : Shared} {vs : List Value} {ns : List Int}
    (KX : K.In s.heap) (gl : s.heap.Ns mainGlobals mg) (bl : s.heap.Ns builtinsNs mb) (boot : ∀ y : Str, y ≠ "__name__" → mb y = bootBuiltins y) (free : s.heap.NoLimit) (gens : s.gens = #[])
    (ha : s.heap.get? a = some { cls := .type "list", data := .seq vs.toArray }) (hints : IntsAre vs ns) (short : ns.length ≤ sizeLine)
    (F : ∀ base : Heap, K.In base → base.Ns mainGlobals mg → LawOk P w K mg base fa fd x sp) (bind : ∀ (s : Shared) (u : Value), BindsTo s fd ⟨[u], []⟩ [(x, u)])
    (hs : ∀ H : Hp, Only H → SqL K H a (ns.map V.int) → sp [.ref a] H (fun v _ => v = .bl true) (fun _ _ _ => False)) :
    codeAny (model P w) callerA (.call (.ref fa) ⟨[.ref a], []⟩) (fun r s' => r = .ok (.ret (.bool true)) ∧ OldK s.heap s'.heap ∧ s'.os = s.os ∧ AllBare s'.gens) s := by
  have rel := vals_ints hints
  have count := hints.length
  let ob : Obj := { cls := .type "list", data := .seq vs.toArray }
  have main : ∀ H : Hp, Only H → SqL K H a (ns.map V.int) → HOk P w H s.heap → (∀ b, H b ≠ none → b = a) → (H a ≠ none → K.lookup a = none) →
      codeAny (model P w) callerA (.call (.ref fa) ⟨[.ref a], []⟩) (fun r s' => r = .ok (.ret (.bool true)) ∧ OldK s.heap s'.heap ∧ s'.os = s.os ∧ AllBare s'.gens) s := by
    intro H only seq hok just notK
    let B := hidT s.heap H
    have noDict : ∀ {b : Addr} {o : Obj} {es : Array DictEntry} {ep : Nat}, s.heap.get? b = some o → o.data = .dict es ep → H b = none := fun {b o es ep} e d => by
      cases q : H b with
      | none => rfl
      | some _ =>
        obtain rfl : b = a := just b (by rw [q]; simp)
        rw [ha] at e
        cases e
        cases (show Data.seq vs.toArray _ = Data.dict es ep from d)
    have space : ∀ {b : Addr} {m : Str → Option Value}, s.heap.Ns b m → B.Ns b m := fun {b m} ⟨o, es, ep, e, d, r⟩ => ⟨o, es, ep, hidT_get e (noDict e d), d, r⟩
    have KB : K.In B := fun b o e => hidT_get (KX b o e) (by
      cases q : H b with
      | none => rfl
      | some _ =>
        obtain rfl : b = a := just b (by rw [q]; simp)
        rw [notK (by rw [q]; simp)] at e
        cases e)
    have M : Mod K mg B := ⟨KB, space gl, ⟨mb, space bl, boot⟩, let ⟨mc, h1, h2⟩ := free; ⟨mc, space h1, h2⟩⟩
    have e0 : Env0 P w K mg B callerA [] s H := ⟨rfl, M, fun b o e => of_hidT e, Nat.le_of_eq (hidT_size _ _), trivial, fun b hb => absurd (show b ∈ ([] : List Addr) from hb) List.not_mem_nil, hok, .of_eq gens⟩
    refine codeAny_mono (F B KB (space gl) s H (.ref a) (.ref a) _ e0 (bind s (.ref a)) rfl (hs H only seq)) fun r s' out => ?_
    cases r with
    | error e => exact False.elim out
    | ok fl =>
      cases fl with
      | next => exact False.elim out
      | brk => exact False.elim out
      | cont => exact False.elim out
      | ret u =>
        obtain ⟨v, H', os, bare, un, hok', rv, q⟩ := out
        obtain rfl : v = .bl true := q
        obtain rfl : u = Value.bool true := rv
        refine ⟨rfl, OldK.of_keep fun b o e => ?_, os, bare⟩
        cases q : H b with
        | none => exact un.keep b o e q (fun z => absurd (show b ∈ ([] : List Addr) from z) List.not_mem_nil) List.not_mem_nil
        | some _ =>
          rcases only b with z | ⟨o2, xs, z⟩
          · rw [q] at z
            cases z
          · obtain ⟨g1, _⟩ := hok b _ z
            obtain ⟨g2, _⟩ := hok' b _ (un.frzs b o2 _ z)
            rw [e] at g1
            cases g1
            exact g2
  cases lk : K.lookup a with
  | some o =>
    have e := KX a o lk
    rw [ha] at e
    cases e
    exact main (fun _ => none) (fun _ => .inl rfl) (.inr ⟨_, vs.toArray, _, lk, rfl, rfl, rfl, by rw [List.size_toArray, count]; exact short, by simpa using rel⟩) (fun b u z => nomatch (show (none : Option HO) = some u from z)) (fun b z => absurd rfl z) fun z => absurd rfl z
  | none =>
    let H1 : Hp := fun b => if b = a then some (.frz ob (.lst (ns.map V.int))) else none
    have atA : H1 a = some (.frz ob (.lst (ns.map V.int))) := if_pos rfl
    have offA : ∀ {b : Addr}, b ≠ a → H1 b = none := fun hb => if_neg hb
    refine main H1 (fun b => ?_) (.inl (.inr ⟨ob, atA⟩)) (fun b u z => ?_) (fun b z => ?_) fun _ => lk
    · by_cases hb : b = a
      · exact .inr ⟨_, _, by rw [hb]; exact atA⟩
      · exact .inl (offA hb)
    · by_cases hb : b = a
      · subst hb
        cases atA.symm.trans z
        exact ⟨ha, by rw [List.length_map]; exact short, vs, _, rel, ha⟩
      · exact nomatch (offA hb).symm.trans z
    · by_cases hb : b = a
      · exact hb
      · exact absurd (offA hb) z
theorem walk_law {l : PySem.W.OpenLaw} {n : Nat} {q : Program} {loose : List Str} {XP : (Str → Option Value) → Heap → Prop} {YP : World → Heap → Prop} {d : DefRec} {x : Str} (hn : l.most = some n) (hz : n ≤ sizeLine) (noDfl : d.params.defaults = [])
    (F : ∀ (w : World) (mg : Str → Option Value) (fa : Addr) (h : Heap), YP w h → h.Ns mainGlobals mg → mg d.name = some (.ref fa) → ∃ (K : PySem.W.Frag) (fd : FuncData) (sp : Sp), K.In h ∧ (∀ (s : Shared) (u : Value), BindsTo s fd ⟨[u], []⟩ [(x, u)]) ∧
      (∀ (H : Hp) (a : Addr) (ns : List Int), ns.length ≤ n → Only H → SqL K H a (ns.map V.int) → sp [.ref a] H (fun v _ => v = .bl true) fun _ _ _ => False) ∧
      ∀ base : Heap, K.In base → base.Ns mainGlobals mg → LawOk l.prog w K mg base fa fd x sp) :
    PySem.W.WalkO q loose XP YP l.row.toRowW d [] (fun f vs => PySem.call f vs) := by
  refine Att.attach_call hn noDfl fun w s₀ s₁ mg mb fa o pm cd doc a vs ns G Y ho hd hcd hmg hobj hints short gens => ?_
  obtain ⟨K, fd, sp, KX, bind, hs, hF⟩ := F w mg fa _ Y G.T.g hmg
  exact law_run KX G.T.g G.T.b G.T.builtins G.T.nolimit gens hobj hints (Nat.le_trans short hz) hF bind fun H only seq => hs H a ns short only seq
end V1

set_option maxHeartbeats 4000000
/-! V1e: what K00's files had in the namespace V1, for other laws -/
namespace V1
open PySem PySem.Spec PyProof.Rows L2
/-- the def that the module's name x stands for keeps sp -/
def Has (P : Program) (w : World) (K : PySem.W.Frag) (mg : Str → Option Value) (base : Heap) (CX : CXT) (k : Nat) (x : Str) (ps : List Str) (sp : Sp) : Prop :=
  ∃ fd, FnOk P w K mg base CX k (He.ga K x) fd ps sp ∧ Binds K fd ps [] ∧ PySem.W.keepIn K (.ref (He.ga K x)) = true ∧ mg x = some (.ref (He.ga K x))
theorem pe_has {X : Cx} {CX : CXT} {k : Nat} {x : Str} {ps : List Str} {sp : Sp} {E : XK} {e : Expr} {es : List Expr} {t : TA} {p pos : Pos} (h : Has X.prog X.w X.K X.mg X.base CX k x ps sp) (hr : Room k X.A) (hx : Passes CX X E) (ha : PA X (e :: es) t) (hg : Gl X x := by rfl)
    (hdb : (x == ("__debug__" : Str)) = false := by decide) (he : starEach (e :: es) X.env = (false, eval e X.env) :: starEach es X.env := by rfl) (hpl : (backTo pos (starEach es X.env)).any (·.1) = false := by rfl) :
    PE X (.Call (.Name x p) (e :: es) [] pos) (tCall sp [] E t) := by
  obtain ⟨fd, F, b, kp, g⟩ := h
  exact pe_call F hr hg g kp b .nil hx ha hdb he hpl
theorem pe_has0 {X : Cx} {CX : CXT} {k : Nat} {x : Str} {ps : List Str} {sp : Sp} {E : XK} {p pos : Pos} (h : Has X.prog X.w X.K X.mg X.base CX k x ps sp) (hr : Room k X.A) (hx : Passes CX X E) (hg : Gl X x := by rfl)
    (hdb : (x == ("__debug__" : Str)) = false := by decide) : PE X (.Call (.Name x p) [] [] pos) (tCall sp [] E tNil) := by
  obtain ⟨fd, F, b, kp, g⟩ := h
  exact pe_call0 F hr hg g kp b .nil hx hdb
theorem delH_upd {H : Hp} {a : Addr} {o : HO} : delH (upd H a o) a = delH H a := by
  funext b
  by_cases e : b = a
  · rw [e, delH_same, delH_same]
  · rw [delH_ne e, delH_ne e, upd_ne e]
theorem delH_updN {H : Hp} {a p : Addr} {o : HO} (h : p ≠ a) : delH (upd H p o) a = upd (delH H a) p o := by
  funext b
  by_cases e : b = a
  · rw [e, delH_same, upd_ne (Ne.symm h), delH_same]
  · rw [delH_ne e]
    by_cases z : b = p
    · rw [z, upd_same, upd_same]
    · rw [upd_ne z, upd_ne z, delH_ne e]
theorem same_new {H : Hp} {p : Addr} {o : HO} (h : H p = none) : Same H (upd H p o) := fun b x e => by
  rw [upd_ne (ne_of_none e h)]
  exact e
theorem same_delH {H : Hp} {a : Addr} : Same (delH H a) H := fun b o e => by
  by_cases z : b = a
  · rw [z, delH_same] at e
    cases e
  · rw [delH_ne z] at e
    exact e
theorem same_del {H H' : Hp} {a : Addr} (h : Same H H') : Same (delH H a) (delH H' a) := fun b o e => by
  by_cases z : b = a
  · rw [z, delH_same] at e
    cases e
  · rw [delH_ne z] at e ⊢
    exact h b o e
end V1
namespace V1
open PySem PySem.Spec PyProof.Rows L2
/-- [..], its place told not to be the table of modules -/
def tLstS (t : TA) : TE := fun σ H Q => t σ H fun xs H1 => xs.length ≤ sizeLine ∧ ∀ p, H1 p = none → (p == sysModules) = false → Q (.ref p) (upd H1 p (.lst xs))
theorem pe_lstS {X : Cx} {es : List Expr} {t : TA} {pos : Pos} (h : PA X es t) : PE X (.List es pos) (tLstS t) := by
  constructor
  intro pins s σ H Q I hq
  apply wpAny_List_spliced
  apply thn (h.run pos pins s σ H _ I hq)
  rintro us s1 ⟨xs, H1, J, rv, z, q⟩
  have lenU : us.length ≤ sizeLine := rv.length ▸ z
  refine ⟨lenU, .ref s1.heap.objs.size, _, ?_, rfl, q _ (J.hok.fresh (Nat.le_refl _)) (beq_eq_false_iff_ne.mpr (Nat.ne_of_gt J.big))⟩
  exact J.laid (o := .lst xs) (t' := s1.toks) (fun _ _ e => Heap.get?_push_of_some _ e) (Nat.le_refl _) ⟨z, us, 0, rv, Heap.get?_push_size _ rfl⟩
/-- the hand at a stands -/
def Held (H : Hp) (a : Addr) : Prop := ∃ o, H a = some o
theorem Held.same {H H' : Hp} {a : Addr} (h : Held H a) (s : Same H H') : Held H' a := let ⟨o, e⟩ := h; ⟨o, s _ _ e⟩
theorem Held.off {H H' : Hp} {a p : Addr} {o : HO} (h : Held H a) (n : H p = none) (e : H' p = some o) : (delH H' a) p = some o := by
  obtain ⟨u, hu⟩ := h
  rw [delH_ne (Ne.symm (ne_of_none hu n))]
  exact e
/-- te makes this data beside what stands at a -/
def Mk (te : TE) (σ : L2.St) (a : Addr) (d : PyData) : Prop := ∀ H, Held H a → ∀ Q : VK, (∀ v H', Same H H' → Dq (delH H' a) v d → Q v H') → te σ H Q
def MkA (ta : TA) (σ : L2.St) (a : Addr) (ds : List PyData) : Prop := ∀ H, Held H a → ∀ Q : List V → Hp → Prop, (∀ vs H', Same H H' → DqAll (delH H' a) vs ds → Q vs H') → ta σ H Q
section
variable {σ : L2.St} {a : Addr} {d : PyData} {ds : List PyData} {te : TE} {ta : TA}
theorem mk_non : Mk (tC .non) σ a .none := fun H _ _ k => k _ H (Same.refl H) .non
theorem mk_bl (b : Bool) : Mk (tC (.bl b)) σ a (.bool b) := fun H _ _ k => k _ H (Same.refl H) (.bl b)
theorem mk_int (i : Int) : Mk (tC (.int i)) σ a (.int i) := fun H _ _ k => k _ H (Same.refl H) (.int i)
theorem mk_str (x : Str) : Mk (tC (.str x)) σ a (.str x) := fun H _ _ k => k _ H (Same.refl H) (.str x)
theorem mka_nil : MkA tNil σ a [] := fun H _ _ k => k [] H (Same.refl H) .nil
theorem mka_cons (h : Mk te σ a d) (r : MkA ta σ a ds) : MkA (tCons te ta) σ a (d :: ds) := fun H hh _ k => h H hh _ fun v H1 s1 q1 => r H1 (hh.same s1) _ fun vs H2 s2 q2 => k (v :: vs) H2 (s1.trans s2) (.cons (Dq.same (same_del s2) d v q1) q2)
theorem dqAll_len {H : Hp} : ∀ {vs : List V} {ds : List PyData}, DqAll H vs ds → vs.length = ds.length
  | _, [], .nil => rfl
  | _, _ :: _, .cons _ m => congrArg (· + 1) (dqAll_len m)
theorem mk_tup (r : MkA ta σ a ds) (hz : ds.length ≤ 1000) : Mk (tTup ta) σ a (.tuple ds) := fun H hh _ k => r H hh _ fun vs H1 s1 q1 =>
  ⟨Nat.le_of_lt (small1000 (by rw [dqAll_len q1]; exact hz)), fun p n => k _ _ (s1.trans (same_new n)) (.tup ((hh.same s1).off n upd_same) (DqAll.same (same_del (same_new n)) ds vs q1))⟩
theorem mk_lst (r : MkA ta σ a ds) (hz : ds.length ≤ 1000) : Mk (tLstS ta) σ a (.list ds) := fun H hh _ k => r H hh _ fun vs H1 s1 q1 =>
  ⟨Nat.le_of_lt (small1000 (by rw [dqAll_len q1]; exact hz)), fun p n low => k _ _ (s1.trans (same_new n)) (.lst ((hh.same s1).off n upd_same) low (DqAll.same (same_del (same_new n)) ds vs q1))⟩
theorem mk_dict0 : Mk tDNewK σ a (.dict []) := fun H hh _ k p n => k _ _ (same_new n) (.dct (hh.off n upd_same) .nil)
/-- a written dict of one text key and an int -/
theorem mk_dict1 (x : Str) (i : Int) : Mk (tDisp [(tC (.str x), tC (.int i))]) σ a (.dict [(.str x, .int i)]) := fun H hh _ k p n =>
  ⟨upd_same, [(.inr x, .int i)], rfl, (by show 1 ≤ 15; decide), by
    rw [upd_upd]
    exact k _ _ (same_new n) (.dct (kvs := [(.inr x, .int i)]) (hh.off n upd_same) (.cons (k := .inr x) (.int i) .nil))⟩
theorem DqAll.get {H : Hp} : ∀ {vs : List V} {ds : List PyData} {j : Nat} {d : PyData}, DqAll H vs ds → ds[j]? = some d → ∃ v, vs[j]? = some v ∧ Dq H v d
  | _, _ :: _, 0, _, .cons one _, e => ⟨_, rfl, by
    obtain rfl := Option.some.inj e
    exact one⟩
  | _, _ :: _, j + 1, _, .cons _ more, e => DqAll.get (j := j) more e
/-- an item of a written list of data, its place from an int -/
theorem mk_pick {K : PySem.W.Frag} {ti : TE} {H : Hp} {Q : VK} {j : Nat} (r : MkA ta σ a ds) (hz : ds.length ≤ 1000) (hh : Held H a) (hi : ∀ H1, Same H H1 → ∀ Q : VK, Q (.int j) H1 → ti σ H1 Q) (hj : j < ds.length)
    (k : ∀ v H', Same H H' → Dq (delH H' a) v ds[j] → Q v H') : tOp (rIxL K) (tLstS ta) ti σ H Q := r H hh _ fun vs H1 s1 q1 =>
  ⟨Nat.le_of_lt (small1000 (by rw [dqAll_len q1]; exact hz)), fun p n _ => by
    obtain ⟨v, hv, dv⟩ := DqAll.get q1 (List.getElem?_eq_getElem hj)
    have s2 := s1.trans (same_new (o := .lst vs) n)
    exact hi _ s2 _ ⟨p, vs, j, v, rfl, rfl, .inl (.inl upd_same), atI_nat hv, k v _ s2 (Dq.same (same_del (same_new n)) _ v dv)⟩⟩
end
structure Good (d : PyData) (b n : Nat) : Prop where
  sh : d.showable = true
  dp : d.depth ≤ b
  ln : d.shown.length ≤ n
theorem Good.mono {d : PyData} {b n b' n' : Nat} (h : Good d b n) (h1 : b ≤ b') (h2 : n ≤ n') : Good d b' n' := ⟨h.sh, Nat.le_trans h.dp h1, Nat.le_trans h.ln h2⟩
theorem good_int {i : Int} (h0 : 0 ≤ i) (h : i < 10 ^ 6) : Good (.int i) 0 6 := by
  refine ⟨?_, Nat.le_refl _, toString_length_le h0 (by decide) h⟩
  have z : i.natAbs < 2 ^ 20 := by omega
  have e : i.natAbs.log2 < 1920 := by
    by_cases hz : i.natAbs = 0
    · rw [hz]
      decide
    · exact Nat.lt_trans ((Nat.log2_lt hz).mpr z) (by decide)
  simpa [PyData.showable] using e
theorem good_list2 {d e : PyData} {b c n m : Nat} (hd : Good d b n) (he : Good e c m) : Good (.list [d, e]) (max b c + 1) (n + m + 4) := by
  refine ⟨?_, ?_, ?_⟩
  · simp only [PyData.showable, PyData.showableAll, hd.sh, he.sh, Bool.and_self]
  · simp only [PyData.depth, PyData.depthAll]
    have h1 := hd.dp
    have h2 := he.dp
    omega
  · have q : (PyData.list [d, e]).shown = ((((Str.ofString "[" ++ Str.ofString "") ++ d.shown) ++ Str.ofString ", ") ++ e.shown) ++ Str.ofString "]" := by
      simp only [PyData.shown, PyData.shownAll]
      rfl
    rw [q]
    simp only [strLen_append]
    have h1 := hd.ln
    have h2 := he.ln
    have k1 : (Str.ofString "[").length = 1 := by decide
    have k2 : (Str.ofString "").length = 0 := by decide
    have k3 : (Str.ofString ", ").length = 2 := by decide
    have k4 : (Str.ofString "]").length = 1 := by decide
    omega
theorem good_tup2 {d e : PyData} {b c n m : Nat} (hd : Good d b n) (he : Good e c m) : Good (.tuple [d, e]) (max b c + 1) (n + m + 4) := by
  refine ⟨?_, ?_, ?_⟩
  · simp only [PyData.showable, PyData.showableAll, hd.sh, he.sh, Bool.and_self]
  · simp only [PyData.depth, PyData.depthAll]
    have h1 := hd.dp
    have h2 := he.dp
    omega
  · have q : (PyData.tuple [d, e]).shown = (Str.ofString "(" ++ Str.join ", " [d.shown, e.shown]) ++ Str.ofString ")" := by
      simp only [PyData.shown, PyData.shownAll]
      rfl
    rw [q]
    simp only [strLen_append]
    have h1 := hd.ln
    have h2 := he.ln
    have j := join_length_add [d.shown, e.shown] (by simp)
    have p : piled [d.shown, e.shown] = d.shown.length + 2 + (e.shown.length + 2) := by simp [piled]
    have k1 : (Str.ofString "(").length = 1 := by decide
    have k2 : (Str.ofString ")").length = 1 := by decide
    omega
end V1
namespace V1
open PySem PySem.Spec PyProof.Rows L2
/-- an exception's class, and its fields if it has some -/
abbrev Kd : Type := Addr × Option (List (Str × V))
inductive ExAll (H : Hp) : List V → List Kd → Prop
  | nil : ExAll H [] []
  | cons {a : Addr} {k : Kd} {vs : List V} {ks : List Kd} (one : IsEx H a k.1 k.2) (more : ExAll H vs ks) : ExAll H (.ref a :: vs) (k :: ks)
theorem ExAll.same {H H' : Hp} (e : Same H H') : ∀ {vs : List V} {ks : List Kd}, ExAll H vs ks → ExAll H' vs ks
  | _, _, .nil => .nil
  | _, _, .cons one more => .cons (one.same e) (more.same e)
theorem ExAll.len {H : Hp} : ∀ {vs : List V} {ks : List Kd}, ExAll H vs ks → vs.length = ks.length
  | _, _, .nil => rfl
  | _, _, .cons _ more => congrArg (· + 1) more.len
theorem ExAll.app {H : Hp} : ∀ {vs us : List V} {ks ls : List Kd}, ExAll H vs ks → ExAll H us ls → ExAll H (vs ++ us) (ks ++ ls)
  | _, _, _, _, .nil, h => h
  | _, _, _, _, .cons one more, h => .cons one (more.app h)
theorem ExAll.get {H : Hp} : ∀ {vs : List V} {ks : List Kd} {j : Nat} {k : Kd}, ExAll H vs ks → ks[j]? = some k → ∃ a, vs[j]? = some (.ref a) ∧ IsEx H a k.1 k.2
  | _, _, 0, _, .cons one _, e => ⟨_, rfl, by
    obtain rfl := Option.some.inj e
    exact one⟩
  | _, _, j + 1, _, .cons _ more, e => more.get (j := j) e
/-- te makes an exception of this kind -/
def MkE (te : TE) (σ : L2.St) (k : Kd) : Prop := ∀ (H : Hp) (Q : VK), (∀ a H', Same H H' → IsEx H' a k.1 k.2 → Q (.ref a) H') → te σ H Q
def MkEs (ta : TA) (σ : L2.St) (ks : List Kd) : Prop := ∀ (H : Hp) (Q : List V → Hp → Prop), (∀ vs H', Same H H' → ExAll H' vs ks → Q vs H') → ta σ H Q
section
variable {σ : L2.St} {k : Kd} {ks ls : List Kd} {te : TE} {ta tb : TA}
theorem mke_nil : MkEs tNil σ [] := fun H _ q => q [] H (Same.refl H) .nil
theorem mke_cons (h : MkE te σ k) (r : MkEs ta σ ks) : MkEs (tCons te ta) σ (k :: ks) := fun H _ q => h H _ fun a H1 s1 e1 => r H1 _ fun vs H2 s2 e2 => q _ H2 (s1.trans s2) (.cons (e1.same s2) e2)
theorem mke_bare (C : Addr) : MkE (tMk0 C) σ (C, none) := fun H _ q a n => q a _ (same_new n) upd_same
/-- a list of them -/
def MkEL (te : TE) (σ : L2.St) (ks : List Kd) : Prop := ∀ (H : Hp) (Q : VK), (∀ p vs H', Same H H' → H p = none → H' p = some (.lst vs) → ExAll H' vs ks → Q (.ref p) H') → te σ H Q
theorem fresh_up {H H' : Hp} {p : Addr} (s : Same H H') (n : H' p = none) : H p = none := by
  cases e : H p with
  | none => rfl
  | some o =>
    rw [s p o e] at n
    cases n
theorem mkel_lst (r : MkEs ta σ ks) (hz : ks.length ≤ 1000) : MkEL (tLst ta) σ ks := fun H _ q => r H _ fun vs H1 s1 e1 =>
  ⟨Nat.le_of_lt (small1000 (by rw [e1.len]; exact hz)), fun p n => q p vs _ (s1.trans (same_new n)) (fresh_up s1 n) upd_same (e1.same (same_new n))⟩
theorem mkel_go {H : Hp} {Q : VK} (r : MkEs ta σ ks) (hz : ks.length ≤ 1000) (q : ∀ p vs H', Same H H' → H p = none → H' p = some (.lst vs) → ExAll H' vs ks → Q (.ref p) H') : tLst ta σ H Q := mkel_lst r hz H Q q
theorem q_mkel {H : Hp} {D : Ends} {tz : TS} {i : Nat} (r : MkEs ta σ ks) (hz : ks.length ≤ 1000) (k : ∀ p vs H', Same H H' → H p = none → H' p = some (.lst vs) → ExAll H' vs ks → tz D (σ.set i (some (.ref p))) H') :
    tSeq (tAsg (tLst ta) (gName i)) tz D σ H := by
  show tLst ta σ H fun v H' => tz D (σ.set i (some v)) H'
  exact mkel_lst r hz H _ k
/-- a list of what is told wherever G holds -/
def Bs (ta : TA) (σ : L2.St) (G : Hp → Prop) (vs : List V) : Prop := ∀ H, G H → ∀ Q : List V → Hp → Prop, Q vs H → ta σ H Q
theorem bs_nil {G : Hp → Prop} : Bs tNil σ G [] := fun H _ _ q => q
theorem bs_cons {G : Hp → Prop} {v : V} {vs : List V} (h : ∀ H, G H → ∀ Q : VK, Q v H → te σ H Q) (r : Bs ta σ G vs) : Bs (tCons te ta) σ G (v :: vs) := fun H g _ q => h H g _ (r H g _ q)
theorem q_bs {H : Hp} {D : Ends} {tz : TS} {i : Nat} {G : Hp → Prop} {vs : List V} (b : Bs ta σ G vs) (g : G H) (hz : vs.length ≤ 1000) (k : ∀ p H', Same H H' → H p = none → H' p = some (.lst vs) → tz D (σ.set i (some (.ref p))) H') :
    tSeq (tAsg (tLst ta) (gName i)) tz D σ H := by
  show tLst ta σ H fun v H' => tz D (σ.set i (some v)) H'
  exact b H g _ ⟨Nat.le_of_lt (small1000 hz), fun p n => k p _ (same_new n) n upd_same⟩
theorem r_bs {H : Hp} {Q : VK} {G : Hp → Prop} {vs : List V} (b : Bs ta σ G vs) (g : G H) (hz : vs.length ≤ 1000) (k : ∀ p H', Same H H' → H p = none → H' p = some (.lst vs) → Q (.ref p) H') : tLst ta σ H Q := b H g _ ⟨Nat.le_of_lt (small1000 hz), fun p n => k p _ (same_new n) n upd_same⟩
theorem cat_go {H : Hp} {Q : VK} {x y : Addr} {xs ys : List V} (hx : H x = some (.lst xs)) (hy : H y = some (.lst ys)) (hz : xs.length + ys.length ≤ 1000) (k : ∀ p H', Same H H' → H p = none → H' p = some (.lst (xs ++ ys)) → Q (.ref p) H') : rCat (.ref x) (.ref y) H Q :=
  ⟨x, y, xs, ys, rfl, rfl, hx, hy, Nat.le_of_lt (small1000 hz), fun p n => k p _ (same_new n) n upd_same⟩
theorem mkel_cat {t1 t2 : TE} (h1 : MkEL t1 σ ks) (h2 : MkEL t2 σ ls) (hz : ks.length + ls.length ≤ 1000) : MkEL (tOp rCat t1 t2) σ (ks ++ ls) := fun H _ q => h1 H _ fun p vs H1 s1 _ e1 x1 => h2 H1 _ fun p2 us H2 s2 _ e2 x2 =>
  ⟨p, p2, vs, us, rfl, rfl, s2 _ _ e1, e2, Nat.le_of_lt (small1000 (by rw [x1.len, x2.len]; exact hz)), fun p3 n => q p3 _ _ ((s1.trans s2).trans (same_new n)) (fresh_up (s1.trans s2) n) upd_same (((x1.same s2).app x2).same (same_new n))⟩
theorem mkel_var {i : Nat} {p : Addr} {vs : List V} {H0 : Hp} (h0 : σ[i]? = some (some (.ref p))) (e : H0 p = some (.lst vs)) (x : ExAll H0 vs ks) : ∀ (H : Hp), Same H0 H → ∀ Q : VK, (∀ H', Same H H' → H' p = some (.lst vs) → ExAll H' vs ks → Q (.ref p) H') → tVar i σ H Q :=
  fun H s Q q => ⟨_, h0, q H (Same.refl H) (s _ _ e) (x.same s)⟩
end
/-- __init__(self, f): self.f = f -/
def spIni (K : PySem.W.Frag) (C : Addr) (f : Str) : Sp := fun vs H Q _ => ∃ (a : Addr) (v : V), vs = [.ref a, v] ∧ H a = some (exo a C none) ∧ ∀ dx, H dx = none → dx ≠ a → Q .non (upd (upd H dx (exd dx [(f, v)])) a (exo a C (some dx)))
theorem mke_field {K : PySem.W.Frag} {σ : L2.St} {C : Addr} {f : Str} {v : V} {ta : TA} (ha : ∀ (H : Hp) (Q : List V → Hp → Prop), Q [v] H → ta σ H Q) : MkE (tMkV C (spIni K C f) [] ta) σ (C, some [(f, v)]) := fun H _ q => ha H _
  ⟨by show 1 ≤ 1000; decide, fun a n => ⟨a, v, rfl, upd_same, fun dx nd ne => by
    have nd' : H dx = none := by
      rw [upd_ne ne] at nd
      exact nd
    refine ⟨rfl, q a _ (fun b o e => ?_) ⟨dx, upd_same, ?_⟩⟩
    · rw [upd_ne (ne_of_none e n), upd_ne (ne_of_none e nd'), upd_ne (ne_of_none e n)]
      exact e
    · rw [upd_ne ne, upd_same]⟩⟩
end V1
namespace V1
open PySem PySem.Spec PyProof.Rows L2
theorem wCl_take {K : PySem.W.Frag} {W : WX} {D : Ends} {c cls : Value} {o : Option Nat} {ts : Addr → Value → Option Addr → TS} {l : List Cl} {d : Option Addr} {σ : L2.St} {H : Hp} (h : PySem.W.exmOne K cls c = some true) (k : ∀ a, H a = none → suiteD D a cls d ts σ H o) :
    wCl K W D ((c, o, ts) :: l) cls d σ H := ⟨true, h, fun _ => k, (fun z => nomatch z)⟩
theorem wCl_skip {K : PySem.W.Frag} {W : WX} {D : Ends} {c cls : Value} {o : Option Nat} {ts : Addr → Value → Option Addr → TS} {l : List Cl} {d : Option Addr} {σ : L2.St} {H : Hp} (h : PySem.W.exmOne K cls c = some false) (k : wCl K W D l cls d σ H) :
    wCl K W D ((c, o, ts) :: l) cls d σ H := ⟨false, h, (fun z => nomatch z), fun _ => k⟩
/-- raise C(e), C's __init__ keeping its one field -/
theorem raise_go {K : PySem.W.Frag} {σ : L2.St} {H : Hp} {C : Addr} {f : Str} {v : V} {ta : TA} {Q : XK} (ha : ∀ Q : List V → Hp → Prop, Q [v] H → ta σ H Q) (k : ∀ d H', H d = none → Same H H' → H' d = some (.xd [(f, v)]) → Q (.ref C) (some d) H') :
    tMkO C (spIni K C f) [] ta σ H Q := ha _ ⟨by show 1 ≤ 1000; decide, fun a n => ⟨a, v, rfl, upd_same, fun dx nd ne => by
  have nd' : H dx = none := by
    rw [upd_ne ne] at nd
    exact nd
  refine ⟨rfl, dx, [(f, v)], upd_same, ?_, nd', k dx _ nd' (fun b o e => ?_) upd_same⟩
  · rw [upd_ne ne, upd_same]
  · rw [upd_ne (ne_of_none e nd'), del_ne (ne_of_none e n), upd_ne (ne_of_none e n), upd_ne (ne_of_none e nd'), upd_ne (ne_of_none e n)]
    exact e⟩⟩
end V1

set_option maxHeartbeats 4000000
/-! V2: for i, x in enumerate(tuple) -/
namespace V2
open PySem PySem.Spec PyProof.Rows L2 V1
open AutoSeq1 (wpAny_loadPart')
theorem enum_tup_new (t : Addr) (items : Array Value) :
    Meets (Builtin.«enumerate.__new__» ⟨[.type "enumerate", .ref t], []⟩) (fun _ R s => s.heap.IsTuple t items ∧
      R (.ok (.ret (.ref (s.heap.objs.size + 1))))
        { s with heap := (s.heap.push { cls := .type "tuple_iterator", data := .fields #[.ref t, .int 0 0] }).push { cls := .type "enumerate", data := .fields #[.none, .bool false, .ref s.heap.objs.size, rawInt 0, .none, .none] } }) :=
  .of_wp fun prog w A R s hh => by
    obtain ⟨hp, g, d, tk, os⟩ := s
    obtain ⟨ht, go⟩ := hh
    have sub := sub_enumerate
    have size : (hp.push { cls := .type "tuple_iterator", data := .fields #[.ref t, .int 0 0] }).objs.size = hp.objs.size + 1 := Heap.size_push ..
    rw [← size] at go
    have begin_ : ∀ {A' : Around} {E : Value → Shared → Prop} {Q : Value → Shared → Prop}, Q (.ref hp.objs.size) ⟨hp.push { cls := .type "tuple_iterator", data := .fields #[.ref t, .int 0 0] }, g, d, tk, os⟩ →
        wpAny (model prog w) A' (pyIter (.ref t)) Q E ⟨hp, g, d, tk, os⟩ := fun q => (begins_tuple t items).iter prog w _ _ ⟨hp, g, d, tk, os⟩ _ ht q
    wp_walk using begin_
    refine wpAny_stack_any fun st => wpAny_pure ?_
    split
    · rename_i c _ _ _ _ _
      cases (c == Value.type "enumerate")
      all_goals
        wp_walk using begin_
        exact ⟨_, rfl, go⟩
    · wp_walk using begin_
      exact ⟨_, rfl, go⟩
section
variable {prog : Program} {w : World} {A : Around} {E : Value → Shared → Prop} {s : Shared}
theorem enum_tup {t : Addr} {items : Array Value} {Q : Value → Shared → Prop} (ht : s.heap.IsTuple t items)
    (k : ∀ h', IsEnum h' (s.heap.objs.size + 1) s.heap.objs.size 0 .none → h'.IsTupleIter s.heap.objs.size t 0 → (∀ b o, s.heap.get? b = some o → h'.get? b = some o) → Q (.ref (s.heap.objs.size + 1)) { s with heap := h' }) :
    wpAny (model prog w) A (call (.type "enumerate") [.ref t]) Q E s := by
  refine callType_new F.called_enumerate (by decide) (F.typeCall_enumerate_1 _) (F.newCall_enumerate_1 _) (fun obj => F.args_object_init_2 obj _) F.entry_enumerate_new (enum_tup_new t items) ⟨ht, ?_⟩
  let itO : Obj := { cls := .type "tuple_iterator", data := .fields #[.ref t, .int 0 0] }
  let enO : Obj := { cls := .type "enumerate", data := .fields #[.none, .bool false, .ref s.heap.objs.size, rawInt 0, .none, .none] }
  have size : (s.heap.push itO).objs.size = s.heap.objs.size + 1 := Heap.size_push ..
  have en : ((s.heap.push itO).push enO).get? (s.heap.objs.size + 1) = some enO := by
    have z := Heap.get?_push_size (s.heap.push itO) (o := enO) rfl
    rwa [size] at z
  have old : ∀ b o, s.heap.get? b = some o → ((s.heap.push itO).push enO).get? b = some o := fun b o e => Heap.get?_push_of_some _ (Heap.get?_push_of_some _ e)
  exact ⟨⟨_, en, rfl⟩, k _ en ⟨itO, Heap.get?_push_of_some _ (Heap.get?_push_size _ rfl), rfl, rfl⟩ old⟩
end
theorem draws_end {prog : Program} {w : World} {A : Around} (hh : A.handled = none) (it t : Addr) (items : Array Value) (i : Nat) (hx : items[i]? = none) :
    Draws prog w A it [it, t] i (fun _ _ => True) (fun j h => j = i ∧ h.IsTupleIter it t i ∧ h.IsTuple t items) where
  live := fun _ _ st => let ⟨o, ho, _⟩ := st.2.1; ⟨o, ho⟩
  frame := fun _ _ _ st hk => ⟨st.1, st.2.1.at fun o e => hk it (List.mem_cons_self ..) o e, st.2.2.at fun o e => hk t (List.mem_cons_of_mem _ (List.mem_singleton.mpr rfl)) o e⟩
  item := fun j s Q E hj st _ => absurd st.1 (Nat.ne_of_lt hj)
  done := fun s Q E st hE => wpAny_nextOf_tuple_end hh st.2.1 st.2.2 hx hE
/-- the tuple at a, each item in a new pair with its place -/
def Itu (K : PySem.W.Frag) (a : Addr) : It :=
  ⟨fun i H => ∃ (xs : List V) (x : V), SqT K H a xs ∧ xs[i]? = some x, fun i H v H' => ∃ T x, v = .ref T ∧ H T = none ∧ H' = upd H T (.tup [.int (i : Nat), x]) ∧ ∀ xs, SqT K H a xs → xs[i]? = some x, fun i H => ∃ xs : List V, SqT K H a xs ∧ xs.length ≤ i⟩
theorem turn_enumT {P : Program} {w : World} {K : PySem.W.Frag} {elts : List Expr} {kk : Nat} {tpos : Pos} (a e it : Addr) :
    Turn P w K (.Tuple elts kk tpos) (Itu K a) [e, it] e (fun i h => (∃ old, IsEnum h e it ((i : Nat) : Int) old) ∧ h.IsTupleIter it a i ∧ e ≠ it) where
  mem := List.mem_cons_self ..
  obj := fun i h st b hb => by
    obtain ⟨⟨old, he⟩, ⟨o, ho, hc, hd⟩, _⟩ := st
    rcases List.mem_cons.mp hb with rfl | hb
    · exact ⟨_, he, fun v q => nomatch q⟩
    · obtain rfl := List.mem_singleton.mp hb
      exact ⟨o, ho, fun v q => by rw [hd] at q; cases q⟩
  keep := fun i h h' st k => let ⟨⟨old, he⟩, hi, hne⟩ := st; ⟨⟨old, k e (List.mem_cons_self ..) _ he⟩, hi.at fun o q => k it (List.mem_cons_of_mem _ (List.mem_singleton.mpr rfl)) o q, hne⟩
  item := by
    intro X hP hw hK hc i pins s σ H E I free st hg
    subst hP hw hK
    obtain ⟨⟨old, he⟩, hit, hne⟩ := st
    obtain ⟨xs, x, hq, hx⟩ := hg
    obtain ⟨its, rv, tup, hz⟩ := I.tuple hq
    obtain ⟨u, hu, ru⟩ := rv.get hx
    have len := rv.length
    have il : i < its.length := by
      obtain ⟨l, _⟩ := List.getElem?_eq_some_iff.mp hu
      exact l
    have off : a ≠ it := by
      rintro rfl
      obtain ⟨o1, e1, c1, n1, d1⟩ := tup
      obtain ⟨o2, e2, c2, d2⟩ := hit
      rw [e1] at e2
      cases e2
      rw [d1] at d2
      cases d2
    refine wpAny_pyNext_enum_itemD (n := its.toArray.size) (Draws.tuple (show X.A.in1.handled = none from I.ok.hd hc) it a off its.toArray) he (And.intro hit tup) (by simpa using il) hne (fun z => ?_) fun y h1 tk hy out st1 new size old1 => ?_
    · rcases List.mem_cons.mp z with z | z
      · exact hne z
      · obtain rfl := List.mem_singleton.mp z
        obtain ⟨o1, e1, c1, n1, d1⟩ := tup
        rw [he] at e1
        cases e1
        cases d1
    have ey : y = u := by
      have z : its.toArray[i]? = some u := by simpa using hu
      exact Option.some.inj (hy.symm.trans z)
    subst ey
    refine ⟨_, rfl, wpAny_letOwnedTupleGo_enum (s := { s with heap := h1, toks := tk + 1 }) out fun h2 he2 sb => ?_⟩
    have lt : e < s.heap.objs.size := Heap.lt_size he
    have T2 : h2.get? s.heap.objs.size = some { cls := .type "tuple", data := .seq #[.int i tk, y] } := (sb.2 _ (Nat.ne_of_gt lt)).trans new
    have ob : ObjOk X.prog X.w (upd H s.heap.objs.size (.tup [.int (i : Nat), x])) h2 s.heap.objs.size (.tup [.int (i : Nat), x]) :=
      ⟨by show 2 ≤ sizeLine; decide, [.int i tk, y], .cons ⟨_, rfl⟩ (.cons ru .nil), _, T2, rfl, _, rfl⟩
    have J : Inv X pins σ (upd H s.heap.objs.size (.tup [.int (i : Nat), x])) { s with heap := h2, toks := tk + 1 } :=
      I.turnedNew (ch := [e, it]) (fun b o hb q => (sb.2 b fun z => hb (by simp [z])).trans (old1 b o (fun z => hb (by simp [z])) (fun z => hb (by simp [z])) q)) free (Nat.le_refl _) ob
    refine ⟨.ref s.heap.objs.size, _, J, rfl, ⟨_, x, rfl, I.hok.fresh (Nat.le_refl _), rfl, fun ys hy => by rw [I.tuple_inj hy hq]; exact hx⟩, ⟨⟨y, ?_⟩, st1.1.at fun o q => (sb.2 it (Ne.symm hne)).trans q, hne⟩, fun b hb => ?_⟩
    · rw [show ((i + 1 : Nat) : Int) = (i : Int) + 1 by omega]
      exact he2
    · have z : b < s.heap.objs.size := by
        rcases List.mem_cons.mp hb with rfl | hb
        · exact lt
        · obtain rfl := List.mem_singleton.mp hb
          obtain ⟨_, q, _⟩ := hit
          exact Heap.lt_size q
      rw [upd_ne (Nat.ne_of_lt z)]
      exact (free b hb).1
  done := by
    intro X hP hw hK hc i pins s σ H E I free st hg
    subst hP hw hK
    obtain ⟨⟨old, he⟩, hit, hne⟩ := st
    obtain ⟨xs, hq, hx⟩ := hg
    obtain ⟨its, rv, tup, hz⟩ := I.tuple hq
    obtain ⟨f0, f1, f2, f3, f4, f5⟩ := free it (List.mem_cons_of_mem _ (List.mem_singleton.mpr rfl))
    have len := rv.length
    have none_ : its.toArray[i]? = none := by simp; omega
    exact wpAny_pyNext_enum_endD (draws_end (show X.A.in1.handled = none from I.ok.hd hc) it a its.toArray i none_) he ⟨rfl, hit, tup⟩ fun h' eb => ⟨rfl, I.turned (t' := s.toks) (fun b o hb q => eb b o hb q) f0 f1 f3 f4 f5⟩
  self := fun A i s Q E st h => let ⟨⟨_, he⟩, _⟩ := st; wpAny_pyIter_enum he h
def iEnumT (K : PySem.W.Frag) (ta : TA) : TI := fun σ H R => ta σ H fun vs H1 => ∃ a xs, vs = [.ref a] ∧ SqT K H1 a xs ∧ R (Itu K a) H1
theorem pi_enumT {X : Cx} {e : Expr} {ta : TA} {p pos tpos : Pos} {elts : List Expr} {kk : Nat} (hg : Gl X "enumerate") (hm : X.mg "enumerate" = none) (ha : PA X [e] ta) (hs : starEach [e] X.env = [(false, eval e X.env)] := by rfl) :
    PI X (.Tuple elts kk tpos) (.Call (.Name "enumerate" p) [e] [] pos) (iEnumT X.K ta) := by
  constructor
  intro pins s σ H R I h
  refine Call_ (ld_blt I hg hm boot_enumerate (PyProof.Rows.callWith_type1 (thn (ha.run pos pins s σ H _ I h) ?_) hs rfl))
  rintro us s1 ⟨_, H1, J, rv, a, xs, rfl, hq, go⟩
  cases rv with
  | cons r more =>
    cases more
    cases r
    obtain ⟨its, rv2, tup, hz⟩ := J.tuple hq
    refine enum_tup tup fun h' he hit old => wpAny_pyIter_enum he ?_
    refine ⟨s1.heap.objs.size + 1, [s1.heap.objs.size + 1, s1.heap.objs.size], _, _, H1, rfl, J.kept (t' := s1.toks) old, turn_enumT a (s1.heap.objs.size + 1) s1.heap.objs.size, ⟨⟨.none, he⟩, hit, Nat.succ_ne_self _⟩, fun b hb => ?_, go⟩
    have le : s1.heap.objs.size ≤ b := by
      rcases List.mem_cons.mp hb with rfl | hb
      · exact Nat.le_succ _
      · exact Nat.le_of_eq (List.mem_singleton.mp hb).symm
    exact J.fpOk le (J.hok.fresh le)
theorem walk_enumT {K : PySem.W.Frag} {a : Addr} {xs : List V} : Walk (Itu K a) xs.length (fun H => SqT K H a xs) (YPair (fun i => some (.int (i : Nat))) (fun i => xs[i]?)) :=
  ⟨fun i _ hi q => ⟨xs, xs[i], q, List.getElem?_eq_getElem hi⟩, fun _ q => ⟨xs, q, Nat.le_refl _⟩, fun i _ _ _ _ q y => let ⟨T, x, h1, h2, h3, h4⟩ := y; ⟨T, .int (i : Nat), x, h1, h2, h3, rfl, h4 xs q⟩⟩
end V2

set_option maxHeartbeats 4000000
/-! V2: data asked for its kind; data as the library's; in, == over data -/
namespace V2
open PySem PySem.Spec PyProof.Rows L2 V1
def tyName : PyData → String
  | .none => "NoneType"
  | .bool _ => "bool"
  | .int _ => "int"
  | .str _ => "str"
  | .list _ => "list"
  | .tuple _ => "tuple"
  | .dict _ => "dict"
theorem dq_ty {K : PySem.W.Frag} {H : Hp} {v : V} {d : PyData} (h : Dq H v d) : TyX K H v (.type (tyName d)) := by
  cases h with
  | non => exact .base .non
  | bl b => exact .base (.bl b)
  | int i => exact .base (.int i)
  | str x => exact .base (.str x)
  | lst e _ _ => exact .base (.lst e)
  | tup e _ => exact .base (.tup e)
  | dct e _ => exact .base (.dK e)
def isInt : PyData → Bool
  | .int _ => true
  | _ => false
def isBool : PyData → Bool
  | .bool _ => true
  | _ => false
def isStr : PyData → Bool
  | .str _ => true
  | _ => false
def isTup : PyData → Bool
  | .tuple _ => true
  | _ => false
def isLst : PyData → Bool
  | .list _ => true
  | _ => false
theorem kit_int (d : PyData) : kitB (tyName d) "int" = some (isInt d || isBool d) := by cases d <;> kernel_rfl
theorem kit_bool (d : PyData) : kitB (tyName d) "bool" = some (isBool d) := by cases d <;> kernel_rfl
theorem kit_str (d : PyData) : kitB (tyName d) "str" = some (isStr d) := by cases d <;> kernel_rfl
theorem kit_tup (d : PyData) : kitB (tyName d) "tuple" = some (isTup d) := by cases d <;> kernel_rfl
theorem kit_lst (d : PyData) : kitB (tyName d) "list" = some (isLst d) := by cases d <;> kernel_rfl
section
variable {K : PySem.W.Frag} {σ : L2.St} {H : Hp} {Q : VK} {te : TE} {v : V} {d : PyData} {n : String} {b : Bool}
theorem isi_go (hb : kitB (tyName d) n = some b) (ht : ∀ Q : VK, Q v H → te σ H Q) (hd : Dq H v d) (q : Q (.bl b) H) : tCB (rIsi K) (tCons te (tCons (tC (.ty n)) tNil)) σ H Q :=
  ht _ ⟨v, .ty n, _, _, b, rfl, .ty n, dq_ty hd, kit_ty hb, q⟩
/-- isinstance(x, (tuple, list)) -/
theorem isiT_go {n1 n2 : String} (hb : PySem.W.kitAny K (.type (tyName d)) [.type n1, .type n2] = some b) (ht : ∀ Q : VK, Q v H → te σ H Q) (hd : Dq H v d) (q : ∀ p, H p = none → Q (.bl b) (upd H p (.tup [.ty n1, .ty n2]))) :
    tCB (rIsiT K) (tCons te (tCons (tTup (tCons (tC (.ty n1)) (tCons (tC (.ty n2)) tNil))) tNil)) σ H Q :=
  ht _ ⟨(by show 2 ≤ sizeLine; decide), fun p np => ⟨v, p, _, _, _, b, rfl, upd_same, .cons (.ty n1) (.cons (.ty n2) .nil), dq_ty (Dq.same (same_new np) d v hd), hb, q p np⟩⟩
theorem kit_tl (d : PyData) : PySem.W.kitAny K (.type (tyName d)) [.type "tuple", .type "list"] = some (isTup d || isLst d) := by
  have h1 := kit_ty (K := K) (kit_tup d)
  have h2 := kit_ty (K := K) (kit_lst d)
  show (match PySem.W.kitOne K (.type (tyName d)) (.type "tuple") with
    | some true => some true
    | some false => (match PySem.W.kitOne K (.type (tyName d)) (.type "list") with
      | some true => some true
      | some false => some false
      | none => none)
    | none => none) = _
  rw [h1, h2]
  cases isTup d <;> cases isLst d <;> rfl
end
/-! data without dicts, as the library's == and in read it -/
mutual
def plain : PyData → Bool
  | .none | .bool _ | .int _ | .str _ => true
  | .list xs | .tuple xs => plainAll xs
  | .dict _ => false
def plainAll : List PyData → Bool
  | [] => true
  | x :: xs => plain x && plainAll xs
end
section
variable {K : PySem.W.Frag} {H : Hp}
mutual
theorem dq_dp : ∀ (d : PyData) (v : V), plain d = true → Dq H v d → Dp K H v d
  | .none, _, _, h => by cases h; exact .non
  | .bool b, _, _, h => by cases h; exact .bl b
  | .int i, _, _, h => by cases h; exact .int i
  | .str x, _, _, h => by cases h; exact .str x
  | .list ds, _, p, h => by
    cases h with
    | lst e _ r => exact .lst (.inl (.inl e)) (dqAll_dp ds _ (by simpa [plain] using p) r)
  | .tuple ds, _, p, h => by
    cases h with
    | tup e r => exact .tup (.inl (.inl e)) (dqAll_dp ds _ (by simpa [plain] using p) r)
  | .dict _, _, p, _ => by simp [plain] at p
theorem dqAll_dp : ∀ (ds : List PyData) (vs : List V), plainAll ds = true → DqAll H vs ds → DpAll K H vs ds
  | [], _, _, h => by cases h; exact .nil
  | d :: ds, _, p, h => by
    cases h with
    | cons one more =>
      have p' : plain d = true ∧ plainAll ds = true := by simpa [plainAll] using p
      exact .cons (dq_dp d _ p'.1 one) (dqAll_dp ds _ p'.2 more)
end
end
/-- x in t, t a tuple of data -/
def rInT (K : PySem.W.Frag) (neg : Bool) : R2 := fun x y H Q => ∃ d ds, Dp K H x d ∧ Dp K H y (.tuple ds) ∧ SeqAt.shaped d = true ∧ SeqAt.shaped (.tuple ds) = true ∧ Q (.bl (neg.xor (ds.any fun z => PyData.eqv z d))) H
section
variable {X : Cx}
theorem op_inT (hu : X.A.units + 70 < cLine) : OpR X (compareOp .In) (rInT X.K false) := by
  rintro pins s σ H x y v u Q I rx ry ⟨d, ds, hd, he, sd, se, q⟩
  obtain ⟨as, r1⟩ := Dp.reads I d x v hd rx
  obtain ⟨bs, r2⟩ := Dp.reads I (.tuple ds) y u he ry
  have dep : d.depth ≤ 64 := by
    have z : (d.canLay0 && decide (d.depth ≤ 64)) = true := sd
    simp only [Bool.and_eq_true, decide_eq_true_eq] at z
    exact z.2
  exact SeqAt.in_tuple_reads r2 r1 (by simpa [PyData.canLay0] using SeqAt.canLay_of_shaped se) (SeqAt.canLay_of_shaped sd) (by omega) ⟨.bl _, H, I, rfl, by simpa using q⟩
theorem op_notInT (hu : X.A.units + 70 < cLine) : OpR X (compareOp .NotIn) (rInT X.K true) := by
  rintro pins s σ H x y v u Q I rx ry ⟨d, ds, hd, he, sd, se, q⟩
  obtain ⟨as, r1⟩ := Dp.reads I d x v hd rx
  obtain ⟨bs, r2⟩ := Dp.reads I (.tuple ds) y u he ry
  have dep : d.depth ≤ 64 := by
    have z : (d.canLay0 && decide (d.depth ≤ 64)) = true := sd
    simp only [Bool.and_eq_true, decide_eq_true_eq] at z
    exact z.2
  exact SeqAt.notIn_tuple_reads r2 r1 (by simpa [PyData.canLay0] using SeqAt.canLay_of_shaped se) (SeqAt.canLay_of_shaped sd) (by omega) ⟨.bl _, H, I, rfl, by simpa using q⟩
end
end V2

set_option maxHeartbeats 4000000
/-! V2c: exceptions of one field; the own == -/
namespace V2
open PySem PySem.Spec PyProof.Rows L2 V1
open Evl (pss_cut tCut sq_of st_of)
section
variable {P : Program} {w : World} {K : PySem.W.Frag} {mg : Str → Option Value} {base : Heap}
theorem ok_init {name qual : Str} {params : Arguments} {body : List Stmt} {scope : Scope} {C fI : Addr} {fd : FuncData} {f : Str} {p1 p2 p3 p4 : Pos} (F : FunD K name qual params body scope [] [] fI fd) (S : FnScope ["self", f] ["self", f] scope)
    (hb : body = [.Assign [.Attribute (.Name "self" p1) f p2] (.Name f p3) p4]) (hC : OexC K C) (no : PySem.W.findIn K (.ref C) f = some none) (hf : (f == ("__debug__" : Str)) = false) (hf2 : (f == ("__classdict__" : Str)) = false)
    (v0 : Vis scope "self") (v1 : Vis scope f) (sw : ∀ env : Env, swapsWith (.Name f p3) (some (.Attribute (.Name "self" p1) f p2)) p4.line env = pure false) : FnOk P w K mg base CX0 1 fI fd ["self", f] (spIni K C f) := by
  subst hb
  refine F.ok S (fun vs H Q E h => ?_) (fun cdv A outer s H vs Q E hr h => ?_)
  · obtain ⟨a, v, rfl, _⟩ := h
    rfl
  · refine ⟨_, PSs.nox (pss_one (ps_ost (pe_var (i := 0) rfl v0) (pe_var (i := 1) rfl v1 hf hf2) (sw _))), ?_⟩
    obtain ⟨a, v, rfl, e, hQ⟩ := h
    exact ⟨v, rfl, _, rfl, a, C, rfl, hC, no, .inl ⟨e, fun dx n ne => hQ dx n ne⟩⟩
structure Fld (P : Program) (w : World) (K : PySem.W.Frag) (mg : Str → Option Value) (base : Heap) (x f : Str) : Prop where
  gC : mg x = some (.ref (He.ga K x))
  oex : OexC K (He.ga K x)
  no : PySem.W.findIn K (.ref (He.ga K x)) f = some none
  init : ∃ fI fd, PySem.W.findIn K (.ref (He.ga K x)) "__init__" = some (some (.ref fI)) ∧ PySem.W.typeIn K (.ref fI) = some (.type "function") ∧ FnOk P w K mg base CX0 1 fI fd ["self", f] (spIni K (He.ga K x) f) ∧ Binds K fd ["self", f] []
theorem pe_fld {X : Cx} {x f : Str} {e : Expr} {es : List Expr} {ta : TA} {p pos : Pos} (h : Fld X.prog X.w X.K X.mg X.base x f) (hr : Room 2 X.A) (ha : PA X (e :: es) ta) (hg : Gl X x := by rfl) (hdb : (x == ("__debug__" : Str)) = false := by decide)
    (he : starEach (e :: es) X.env = (false, eval e X.env) :: starEach es X.env := by rfl) (hpl : (backTo pos (starEach es X.env)).any (·.1) = false := by rfl) :
    PE X (.Call (.Name x p) (e :: es) [] pos) (tMkV (He.ga X.K x) (spIni X.K (He.ga X.K x) f) [] ta) := by
  obtain ⟨fI, fd, h1, h2, h3, h4⟩ := h.init
  exact pe_mkV h.oex h1 h2 h3 hr h4 .nil pass0 hg h.gC ha hdb he hpl
theorem pmk_fld {X : Cx} {x f : Str} {e : Expr} {es : List Expr} {ta : TA} {p pos : Pos} (h : Fld X.prog X.w X.K X.mg X.base x f) (hr : Room 2 X.A) (ha : PA X (e :: es) ta) (hg : Gl X x := by rfl) (hdb : (x == ("__debug__" : Str)) = false := by decide)
    (he : starEach (e :: es) X.env = (false, eval e X.env) :: starEach es X.env := by rfl) (hpl : (backTo pos (starEach es X.env)).any (·.1) = false := by rfl) :
    PMk X (.Call (.Name x p) (e :: es) [] pos) (tMkO (He.ga X.K x) (spIni X.K (He.ga X.K x) f) [] ta) := by
  obtain ⟨fI, fd, h1, h2, h3, h4⟩ := h.init
  exact pmk_oex h.oex h1 h2 h3 hr h4 .nil pass0 hg h.gC ha hdb he hpl
theorem meth_ty {K : PySem.W.Frag} {C f : Addr} {m : Str} (h : Meth K C m f) : PySem.W.typeIn K (.ref f) = some (.type "function") := eq_of_beq h.fn
theorem fld_of {x f : Str} {name qual : Str} {params : Arguments} {body : List Stmt} {scope : Scope} {fI : Addr} {fd : FuncData} {bm : List Value} {p1 p2 p3 p4 : Pos}
    (F : FunD K name qual params body scope [] [] fI fd) (S : FnScope ["self", f] ["self", f] scope) (hb : body = [.Assign [.Attribute (.Name "self" p1) f p2] (.Name f p3) p4])
    (gC : mg x = some (.ref (He.ga K x))) (E : ExK K (He.ga K x) bm) (hr : PySem.HandSPX.refsVE bm = true) (hbe : (Value.ref (He.ga K x) :: bm).contains (.type "BaseException") = true)
    (no : PySem.W.findIn K (.ref (He.ga K x)) f = some none) (m : Meth K (He.ga K x) "__init__" fI) (hf : (f == ("__debug__" : Str)) = false) (hf2 : (f == ("__classdict__" : Str)) = false)
    (v0 : Vis scope "self") (v1 : Vis scope f) (sw : ∀ env : Env, swapsWith (.Name f p3) (some (.Attribute (.Name "self" p1) f p2)) p4.line env = pure false) (b : Binds K fd ["self", f] []) : Fld P w K mg base x f :=
  ⟨gC, E.oex hr hbe, no, fI, fd, m.at_, meth_ty m, ok_init F S hb (E.oex hr hbe) no hf hf2 v0 v1 sw, b⟩
end
def tyNames : List String := ["NoneType", "bool", "int", "str", "list", "tuple", "dict"]
/-- what isinstance and == ask of a plain class -/
def insB (K : PySem.W.Frag) (C : Addr) : Bool :=
  decide (PySem.W.findIn K (.ref C) "__class__" = some (some (.builtin "object.__class__"))) && (decide (PySem.W.mroIn K C (.type "object") = some true) && (decide (PySem.W.kitOne K (.ref C) (.ref C) = some true) &&
    tyNames.all fun n => decide (PySem.W.kitOne K (.type n) (.ref C) = some false) && PySem.W.notFirst K C (.type n)))
structure InsK (K : PySem.W.Frag) (C : Addr) : Prop where
  ha : PySem.W.findIn K (.ref C) "__class__" = some (some (.builtin "object.__class__"))
  hm : PySem.W.mroIn K C (.type "object") = some true
  me : PySem.W.kitOne K (.ref C) (.ref C) = some true
  no : ∀ n ∈ tyNames, PySem.W.kitOne K (.type n) (.ref C) = some false
  nf : ∀ n ∈ tyNames, PySem.W.notFirst K C (.type n) = true
theorem insK_of {K : PySem.W.Frag} {C : Addr} (h : insB K C = true) : InsK K C := by
  unfold insB at h
  simp only [Bool.and_eq_true, List.all_eq_true, decide_eq_true_eq] at h
  exact ⟨h.1, h.2.1, h.2.2.1, fun n hn => (h.2.2.2 n hn).1, fun n hn => (h.2.2.2 n hn).2⟩
theorem tyName_mem (d : PyData) : tyName d ∈ tyNames := by cases d <;> simp [tyName, tyNames]
theorem InsK.ins {K : PySem.W.Frag} {C : Addr} (h : InsK K C) (c : Cls K C) (a : ClsAttr K) : C8.InsC K C := ⟨c, h.ha, a.1, a.2, h.hm, h.me⟩
section
variable {K : PySem.W.Frag} {σ : L2.St} {H : Hp} {Q : VK} {te : TE} {v : V} {d : PyData} {C : Addr}
theorem TyX_ins {a dx : Addr} {fs : List (Str × V)} (e : H a = some (.ins C dx fs)) (c : C8.InsC K C) : TyX K H (.ref a) (.ref C) := .base (.ins e c.cl c.ha c.hn c.htk c.hm)
/-- isinstance(x, C), C a plain class: data -/
theorem isiC_no (i : InsK K C) (ht : ∀ Q : VK, Q v H → te σ H Q) (hd : Dq H v d) (q : Q (.bl false) H) : tCB (rIsi K) (tCons te (tCons (tC (.ref C)) tNil)) σ H Q :=
  ht _ ⟨v, .ref C, _, _, false, rfl, .own C, dq_ty hd, i.no _ (tyName_mem d), q⟩
theorem isiC_yes {a dx : Addr} {fs : List (Str × V)} (i : C8.InsC K C) (ht : ∀ Q : VK, Q (.ref a) H → te σ H Q) (e : H a = some (.ins C dx fs)) (q : Q (.bl true) H) : tCB (rIsi K) (tCons te (tCons (tC (.ref C)) tNil)) σ H Q :=
  ht _ ⟨.ref a, .ref C, _, _, true, rfl, .own C, TyX_ins e i, i.me, q⟩
end
/-- x == y by x's own == -/
def rOwnE (K : PySem.W.Frag) (C : Addr) (sp : Sp) (E : XK) : R2 := fun x y H Q => ∃ a dx fs t, x = .ref a ∧ H a = some (.ins C dx fs) ∧ TyX K H y t ∧ PySem.W.notFirst K C t = true ∧ sp [.ref a, y] H (fun v H' => ∃ b, v = .bl b ∧ Q (.bl b) H') E
section
variable {X : Cx} {pins : List (Addr × Obj)} {σ : L2.St} {H : Hp} {s : Shared}
theorem op_ownE {CX : CXT} {C f : Addr} {fd : FuncData} {ps : List Str} {sp : Sp} {E : XK} {n : Nat} (F : FnOk X.prog X.w X.K X.mg X.base CX n f fd ps sp)
    (hs : PySem.W.findIn X.K (.ref C) "__eq__" = some (some (.ref f))) (hf : PySem.W.isFn X.K (.ref f) = true) (hb : Binds X.K fd ps []) (hx : Passes CX X E) (hr : Room n X.A) : OpR X (compareOp .Eq) (rOwnE X.K C sp E) := by
  intro pins s σ H x y v u Q I rx ry hq
  obtain ⟨a, dx, fs, t, rfl, ha, ty, nf, h⟩ := hq
  cases rx
  show wpAny (model X.prog X.w) X.A (richCompare .Eq (.ref a) u) (EP X pins σ Q) X.xe s
  obtain ⟨P, Z, p, _⟩ := kit_of I ry ty
  obtain ⟨mA, J, _⟩ := ins_get I.hok ha
  obtain ⟨od, J, _⟩ := J.look
  obtain ⟨m, hF⟩ := I.fr
  refine PySem.W.cmp_K (op := .Eq) (tb := t) hr.units0 hF I.ok.mod.kin J (Z.ty (model X.prog X.w) s.heap I.kIn p) nf hs hf ?_
  have hl := F.len _ _ _ _ h
  have r2 : Vals [V.ref a, y] [Value.ref a, u] := .cons rfl (.cons ry .nil)
  refine wpAny_call (codeAny_mono (F.run X.A X.stack s H ⟨[.ref a, u], []⟩ [.ref a, u] [.ref a, y] _ E hr I.env0 (by
    have := hb s [.ref a, u] I.kIn (by simpa using hl)
    simpa using this) r2 h) fun r s' hq => ?_)
  cases r with
  | error e => exact hx pins σ H s e s' I hq
  | ok fl =>
    cases fl with
    | ret w =>
      obtain ⟨z, H', I', rz, b, ez, q⟩ := I.after hq
      subst ez
      cases rz
      exact ⟨.bl b, H', I', rfl, q⟩
    | next => exact False.elim hq
    | brk => exact False.elim hq
    | cont => exact False.elim hq
end
end V2

set_option maxHeartbeats 4000000
/-! V2d: raise X() of a bare own class; comprehensions that make lists of data -/
namespace V2
open PySem PySem.Spec PyProof.Rows L2 V1
theorem pmk_mk0 {X : Cx} {C : Addr} {bmB : List Value} {B newId initId : String} {x : Str} {p pos : Pos} (F : ExcBaseFacts B newId initId bmB) (q : PySem.W.excIn X.K C bmB newId = true) (gC : X.mg x = some (.ref C)) (kC : PySem.W.keepIn X.K (.ref C) = true)
    (r : Raises X (.ref C)) (hg : Gl X x) (hdb : (x == ("__debug__" : Str)) = false := by decide) : PMk X (.Call (.Name x p) [] [] pos) (fun _ H Q => Q (.ref C) none H) := by
  intro pins s σ H Q I h
  refine wpAny_Call_Name_kw (ld_glob I hg gC ?_ hdb)
  refine PySem.W.callWith_K0 I.kIn kC ?_
  obtain ⟨bm, N, nm, qn, bs, hdct, sn, sub, ab, col, dd, k0, k1, k2, k3, k5, mN, hC, hN, hni, T⟩ := exc_obj I.kIn q
  refine wpAny_call_exc_subT F T hC hN hni (fun h' a hm => ?_) (Nat.zero_le _)
  exact mk_of I hm r h (I.hok.gone hm.new)
theorem DqAll.app {H : Hp} : ∀ {vs us : List V} {ds es : List PyData}, DqAll H vs ds → DqAll H us es → DqAll H (vs ++ us) (ds ++ es)
  | _, _, _, _, .nil, h => h
  | _, _, _, _, .cons one more, h => .cons one (DqAll.app more h)
theorem same_delD {H H' : Hp} {D : Addr} (h : Same H H') (n : H D = none) : Same H (delH H' D) := fun b o e => by
  rw [delH_ne (ne_of_none e n)]
  exact h b o e
/-- the list at D has come to acc, behind i turns; Pv tells of the heap without it -/
def Lc (D : Addr) (Pv : Nat → List V → Hp → Prop) (i : Nat) (H : Hp) : Prop := ∃ acc, acc.length ≤ i ∧ H D = some (.lst acc) ∧ Pv i acc (delH H D)
theorem lc_put {D : Addr} {Pv : Nat → List V → Hp → Prop} {i : Nat} {H : Hp} {acc : List V} {y : V} (l : acc.length ≤ i) (z : i < 1000) (e : H D = some (.lst acc)) (p : Pv (i + 1) (acc ++ [y]) (delH H D)) :
    ∃ acc, H D = some (.lst acc) ∧ acc.length < sizeLine ∧ Lc D Pv (i + 1) (upd H D (.lst (acc ++ [y]))) :=
  ⟨acc, e, Nat.lt_of_le_of_lt l (small1000 (by omega)), acc ++ [y], by rw [List.length_append]; simp; omega, upd_same, by rw [delH_upd]; exact p⟩
theorem lc_skip {D : Addr} {Pv : Nat → List V → Hp → Prop} {i : Nat} {H : Hp} {acc : List V} (l : acc.length ≤ i) (e : H D = some (.lst acc)) (p : Pv (i + 1) acc (delH H D)) : Lc D Pv (i + 1) H := ⟨acc, by omega, e, p⟩
theorem lc_gen {J : It} {n : Nat} {G : Hp → Prop} {Y : Nat → Hp → V → Hp → Prop} (w : Walk J n G Y) {g : TG} {tt : TT} {te : TE} {vs : List Nat} {σ : L2.St} {H1 : Hp} {D : Addr} {Qd : Hp → Prop} (nD : H1 D = none) (Pv : Nat → List V → Hp → Prop) (h0 : Pv 0 [] H1)
    (hG : ∀ i acc H, i ≤ n → Pv i acc (delH H D) → G H)
    (hs : ∀ i acc x H H', i < n → acc.length ≤ i → H D = some (.lst acc) → Pv i acc (delH H D) → Y i H x H' → g x (wipe σ vs) H' fun σ2 H2 => wipe σ2 vs = wipe σ vs ∧ tt σ2 H2 fun b H3 =>
      if b = true then te σ2 H3 fun y H4 => ∃ acc, H4 D = some (.lst acc) ∧ acc.length < sizeLine ∧ Lc D Pv (i + 1) (upd H4 D (.lst (acc ++ [y]))) else Lc D Pv (i + 1) H3)
    (hd : ∀ acc H, acc.length ≤ n → H D = some (.lst acc) → Pv n acc (delH H D) → Qd H) :
    ∃ W : Nat → Nat → Hp → Prop, (∃ m, W 0 m (upd H1 D (.lst []))) ∧ ∀ i m H, W i m H →
      (J.stop i H ∧ Qd H) ∨ (J.go i H ∧ ∃ Nx : Hp → Prop, (∀ H', Nx H' → ∃ m', m' < m ∧ W (i + 1) m' H') ∧ ∀ x H', J.yld i H x H' → g x (wipe σ vs) H' fun σ2 H2 => wipe σ2 vs = wipe σ vs ∧ tt σ2 H2 fun b H3 =>
        if b = true then te σ2 H3 fun y H4 => ∃ acc, H4 D = some (.lst acc) ∧ acc.length < sizeLine ∧ Nx (upd H4 D (.lst (acc ++ [y]))) else Nx H3) :=
  lc_it (σ := σ) w (Lc D Pv) ⟨[], Nat.le_refl _, upd_same, by rw [delH_new nD]; exact h0⟩ (fun i H hi ⟨acc, _, _, p⟩ => hG i acc H hi p) (fun i x H H' hi ⟨acc, l, e, p⟩ y => hs i acc x H H' hi l e p y) (fun H ⟨acc, l, e, p⟩ => hd acc H l e p)
/-- [.. for i in range(n)], no test, each item data made anew -/
theorem lc_rows {K : PySem.W.Frag} {n : Nat} (hz : n ≤ 1000) {te : TE} {i0 : Nat} {vs : List Nat} {σ : L2.St} {H1 : Hp} {D : Addr} {Qd : Hp → Prop} {lo : Int} (f : Nat → PyData) (nD : H1 D = none)
    (hw : ∀ x : V, wipe ((wipe σ vs).set i0 (some x)) vs = wipe σ vs)
    (mk : ∀ i, i < n → ∀ H, Same H1 (delH H D) → (∃ o, H D = some o) → ∀ Q : VK, (∀ v H', Same H H' → Dq (delH H' D) v (f i) → Q v H') → te ((wipe σ vs).set i0 (some (.int (lo + (i : Nat))))) H Q)
    (hd : ∀ us H, H D = some (.lst us) → Same H1 H → DqAll H us ((List.range n).map f) → Qd H) :
    ∃ W : Nat → Nat → Hp → Prop, (∃ m, W 0 m (upd H1 D (.lst []))) ∧ ∀ i m H, W i m H →
      ((Itr lo n).stop i H ∧ Qd H) ∨ ((Itr lo n).go i H ∧ ∃ Nx : Hp → Prop, (∀ H', Nx H' → ∃ m', m' < m ∧ W (i + 1) m' H') ∧ ∀ x H', (Itr lo n).yld i H x H' → gName i0 x (wipe σ vs) H' fun σ2 H2 => wipe σ2 vs = wipe σ vs ∧ tYes σ2 H2 fun b H3 =>
        if b = true then te σ2 H3 fun y H4 => ∃ acc, H4 D = some (.lst acc) ∧ acc.length < sizeLine ∧ Nx (upd H4 D (.lst (acc ++ [y]))) else Nx H3) := by
  refine lc_gen (σ := σ) walk_range nD (fun i acc H => Same H1 H ∧ DqAll H acc ((List.range i).map f)) ⟨Same.refl _, .nil⟩ (fun _ _ _ _ _ => True.intro) ?_ (fun acc H _ e p => hd acc H e (fun b o q => same_delH _ _ (p.1 _ _ q)) (DqAll.same same_delH _ _ p.2))
  rintro i acc x H H' hi l e ⟨sm, p⟩ ⟨rfl, rfl⟩
  refine ⟨hw _, ?_⟩
  simp only [tYes, if_true]
  refine mk i hi H' sm ⟨_, e⟩ _ fun v H2 s2 q2 => ?_
  refine lc_put l (by omega) (s2 _ _ e) ⟨fun b o q => ?_, ?_⟩
  · exact same_del s2 _ _ (sm _ _ q)
  · rw [List.range_succ, List.map_append]
    exact DqAll.app (DqAll.same (same_del s2) _ _ p) (.cons q2 .nil)
end V2

set_option maxHeartbeats 4000000
/-! V2e: C(..) of a plain class within try; isinstance of the caught exception that has a field -/
namespace V2
open PySem PySem.Spec PyProof.Rows L2 V1
def HasC (P : Program) (w : World) (K : PySem.W.Frag) (mg : Str → Option Value) (base : Heap) (CX : CXT) (k : Nat) (x : Str) (ps : List Str) (sp : Sp) : Prop :=
  ∃ fI fd, Mk K (He.ga K x) fI ∧ FnOk P w K mg base CX k fI fd ps sp ∧ Binds K fd ps [] ∧ mg x = some (.ref (He.ga K x))
theorem pe_hasC {X : Cx} {CX : CXT} {k : Nat} {x : Str} {ps : List Str} {sp : Sp} {E : XK} {e : Expr} {es : List Expr} {t : TA} {p pos : Pos} (h : HasC X.prog X.w X.K X.mg X.base CX k x ps sp) (hr : Room (k + 1) X.A) (hx : Passes CX X E) (ha : PA X (e :: es) t) (hg : Gl X x := by rfl)
    (hdb : (x == ("__debug__" : Str)) = false := by decide) (he : starEach (e :: es) X.env = (false, eval e X.env) :: starEach es X.env := by rfl) (hpl : (backTo pos (starEach es X.env)).any (·.1) = false := by rfl) :
    PE X (.Call (.Name x p) (e :: es) [] pos) (tMake (He.ga X.K x) sp [] E t) := by
  obtain ⟨fI, fd, M, F, b, g⟩ := h
  exact pe_make M F hr hg g b .nil hx ha hdb he hpl
/-- C(..), what it lets out by the slots -/
def tMakeS (C : Addr) (sp : Sp) (E : L2.St → XK) (t : TA) : TE := fun σ H Q => tMake C sp [] (E σ) t σ H Q
theorem pe_hasCS {X : Cx} {CX : CXT} {k : Nat} {x : Str} {ps : List Str} {sp : Sp} {E : L2.St → XK} {e : Expr} {es : List Expr} {t : TA} {p pos : Pos} (h : HasC X.prog X.w X.K X.mg X.base CX k x ps sp) (hr : Room (k + 1) X.A) (hx : ∀ σ, PassesAt CX X σ (E σ)) (ha : PA X (e :: es) t) (hg : Gl X x := by rfl)
    (hdb : (x == ("__debug__" : Str)) = false := by decide) (he : starEach (e :: es) X.env = (false, eval e X.env) :: starEach es X.env := by rfl) (hpl : (backTo pos (starEach es X.env)).any (·.1) = false := by rfl) :
    PE X (.Call (.Name x p) (e :: es) [] pos) (tMakeS (He.ga X.K x) sp E t) := by
  obtain ⟨fI, fd, M, F, b, g⟩ := h
  constructor
  intro pins s σ H Q I h
  refine wpAny_Call_Name_kw (ld_glob I hg g ?_ hdb)
  refine PySem.W.callWith_K (h₀ := X.base) I.ok.mod.kin M.kp (thn (ha.run pos pins s σ H _ I h) fun us t1 hh => ?_) he hpl
  obtain ⟨vs, H1, J, rv, q⟩ := hh
  refine ⟨J.kIn, ?_⟩
  have q1 := q (t1.heap.objs.size + 1) t1.heap.objs.size (J.hok.fresh (Nat.le_succ _)) (J.hok.fresh (Nat.le_refl _)) (Nat.ne_of_lt (Nat.lt_succ_self _))
  rw [List.append_nil] at q1
  have J2 := Inv.made (C := He.ga X.K x) J
  have rv2 : Vals (V.ref (t1.heap.objs.size + 1) :: vs) (Value.ref (t1.heap.objs.size + 1) :: us) := .cons rfl rv
  have ln : (Value.ref (t1.heap.objs.size + 1) :: us).length = ps.length := rv2.length.symm.trans (F.len _ _ _ _ q1)
  have bd := b _ (Value.ref (t1.heap.objs.size + 1) :: us) J2.kIn (by rw [List.append_nil]; exact ln)
  rw [List.append_nil] at bd
  refine wpAny_call (make_map (f := fI) J.kIn M.makes M.init (beq_iff_eq.mp M.fn) (codeAny_mono (F.run _ X.stack _ _ ⟨Value.ref (t1.heap.objs.size + 1) :: us, []⟩ _ _ _ (E σ) (hr.make (He.ga X.K x) us [])
    (J2.env0.make (He.ga X.K x) us []) bd rv2 q1) fun r s' hq => ?_))
  match r, hq with
  | .error e, hq => exact hx σ pins _ _ e s' J2 hq
  | .ok (.ret u), hq =>
    obtain ⟨z, H', J3, rz, ez, q3⟩ := J2.after hq
    subst ez
    exact ⟨rz, ⟨V.ref (t1.heap.objs.size + 1), H', J3, rfl, q3⟩⟩
  | .ok .next, hq => exact False.elim hq
  | .ok .brk, hq => exact False.elim hq
  | .ok .cont, hq => exact False.elim hq
/-- isinstance(e, c), e the caught exception, with its dict -/
def rIsXd (K : PySem.W.Frag) (a C : Addr) (cls : Value) (d : Option Addr) : List V → Hp → VK → Prop := fun xs H Q => cls = .ref C ∧ ∃ (c : V) (u : Value) (b : Bool) (dd : Addr) (fs : List (Str × V)), xs = [.ref a, c] ∧ ClsV c u ∧ PySem.W.kitOne K (.ref C) u = some b ∧ d = some dd ∧ H dd = some (.xd fs) ∧ Q (.bl b) H
theorem call_isXd {X : Cx} {a C : Addr} {oe : Obj} {cls : Value} {d : Option Addr} {pn : List (Addr × Obj)} {bm : List Value} (T : ExK X.K C bm) (cA : ClsAttr X.K) (hB : (Value.ref C :: bm).contains (.type "BaseException") = true) (hO : (Value.ref C :: bm).contains (.type "object") = true)
    (hz : Zc cls d oe) (hf : ∃ vs, oe.data = .fields vs) : CallR (X.suite a ((a, oe) :: pn)) (.builtin "isinstance") (rIsXd X.K a C cls d) := by
  intro pins s σ H xs us Q I r h
  obtain ⟨rfl, c, u, b, dd, fs, rfl, k, e, rfl, ea, q⟩ := h
  obtain ⟨w1, w2, rfl, r1, r2⟩ := vals2 r
  obtain rfl : w1 = Value.ref a := r1
  have e2 := k.eq r2
  subst e2
  obtain ⟨ha, _⟩ := I.pin (a, oe) (List.mem_append_left _ List.mem_cons_self)
  obtain ⟨vs, hd⟩ := hf
  have hx : ObjOk X.prog X.w H s.heap dd (.xd fs) := I.hok dd _ ea
  obtain ⟨mA, hns, hr⟩ := hx
  obtain ⟨od, ho, hl⟩ := lookIn_ns hns
  have J : PySem.W.InstAt s.heap a oe C (some od) := ⟨ha, hz.1, by unfold PySem.W.notCls; rw [hd] <;> rfl, by rw [hz.2]; exact ho⟩
  exact PySem.W.kia_one (PySem.W.kitx_exc T.isCls T.ga T.gg (by rw [T.sub, hB]) T.cl cA.gs cA.tk (by rw [T.mro, hO])) I.kIn J e (fun z => nomatch z) fun tk => ⟨.bl b, H, I.tok tk, rfl, q⟩
end V2

set_option maxHeartbeats 4000000
/-! V2f: data at new places only (beside a hand, beside a list that will change) -/
namespace V2
open PySem PySem.Spec PyProof.Rows L2 V1
/-- H, but only what is new behind H0 -/
def newH (H0 H : Hp) : Hp := fun b => match H0 b with
  | none => H b
  | some _ => none
theorem newH_at {H0 H : Hp} {b : Addr} (n : H0 b = none) : newH H0 H b = H b := by
  unfold newH
  rw [n]
theorem newH_old {H0 H : Hp} {b : Addr} {o : HO} (n : H0 b = some o) : newH H0 H b = none := by
  unfold newH
  rw [n]
theorem newH_some {H0 H : Hp} {b : Addr} {o : HO} (h : newH H0 H b = some o) : H0 b = none ∧ H b = some o := by
  cases e : H0 b with
  | none => exact ⟨rfl, by rw [newH_at e] at h; exact h⟩
  | some u =>
    rw [newH_old e] at h
    cases h
theorem newH_sub {H0 H : Hp} : Same (newH H0 H) H := fun _ _ e => (newH_some e).2
theorem newH_up {H0 H H' : Hp} (s : Same H H') : Same (newH H0 H) (newH H0 H') := fun b o e => by
  obtain ⟨n, h⟩ := newH_some e
  rw [newH_at n]
  exact s _ _ h
theorem newH_on {H0 H1 H : Hp} (s : Same H0 H1) : Same (newH H1 H) (newH H0 H) := fun b o e => by
  obtain ⟨n, h⟩ := newH_some e
  have z : H0 b = none := by
    cases q : H0 b with
    | none => rfl
    | some u =>
      rw [s _ _ q] at n
      cases n
  rw [newH_at z]
  exact h
theorem newH_off {H0 H : Hp} {a : Addr} (h : Held H0 a) : Same (newH H0 H) (delH H a) := fun b o e => by
  obtain ⟨n, q⟩ := newH_some e
  obtain ⟨u, hu⟩ := h
  rw [delH_ne (Ne.symm (ne_of_none hu n))]
  exact q
theorem newH_off2 {H0 H : Hp} {a f : Addr} (h : Held H0 a) (hf : Held H0 f) : Same (newH H0 H) (delH (delH H a) f) := fun b o e => by
  obtain ⟨n, q⟩ := newH_some e
  obtain ⟨u, hu⟩ := hf
  rw [delH_ne (Ne.symm (ne_of_none hu n))]
  exact newH_off h b o e
/-- te makes this data at new places -/
def MkN (te : TE) (σ : L2.St) (d : PyData) : Prop := ∀ H, ∀ Q : VK, (∀ v H', Same H H' → Dq (newH H H') v d → Q v H') → te σ H Q
def MkNA (ta : TA) (σ : L2.St) (ds : List PyData) : Prop := ∀ H, ∀ Q : List V → Hp → Prop, (∀ vs H', Same H H' → DqAll (newH H H') vs ds → Q vs H') → ta σ H Q
section
variable {σ : L2.St} {d : PyData} {ds : List PyData} {te : TE} {ta : TA}
theorem mkn_non : MkN (tC .non) σ .none := fun H _ k => k _ H (Same.refl H) .non
theorem mkn_bl (b : Bool) : MkN (tC (.bl b)) σ (.bool b) := fun H _ k => k _ H (Same.refl H) (.bl b)
theorem mkn_int (i : Int) : MkN (tC (.int i)) σ (.int i) := fun H _ k => k _ H (Same.refl H) (.int i)
theorem mkn_str (x : Str) : MkN (tC (.str x)) σ (.str x) := fun H _ k => k _ H (Same.refl H) (.str x)
theorem mkna_nil : MkNA tNil σ [] := fun H _ k => k [] H (Same.refl H) .nil
theorem mkna_cons (h : MkN te σ d) (r : MkNA ta σ ds) : MkNA (tCons te ta) σ (d :: ds) := fun H _ k => h H _ fun v H1 s1 q1 => r H1 _ fun vs H2 s2 q2 =>
  k (v :: vs) H2 (s1.trans s2) (.cons (Dq.same (newH_up s2) d v q1) (DqAll.same (newH_on s1) ds vs q2))
theorem mkn_tup (r : MkNA ta σ ds) (hz : ds.length ≤ 1000) : MkN (tTup ta) σ (.tuple ds) := fun H _ k => r H _ fun vs H1 s1 q1 =>
  ⟨Nat.le_of_lt (small1000 (by rw [dqAll_len q1]; exact hz)), fun p n => k _ _ (s1.trans (same_new n)) (.tup (by rw [newH_at (fresh_up s1 n)]; exact upd_same) (DqAll.same (newH_up (same_new n)) ds vs q1))⟩
theorem mkn_lst (r : MkNA ta σ ds) (hz : ds.length ≤ 1000) : MkN (tLstS ta) σ (.list ds) := fun H _ k => r H _ fun vs H1 s1 q1 =>
  ⟨Nat.le_of_lt (small1000 (by rw [dqAll_len q1]; exact hz)), fun p n low => k _ _ (s1.trans (same_new n)) (.lst (by rw [newH_at (fresh_up s1 n)]; exact upd_same) low (DqAll.same (newH_up (same_new n)) ds vs q1))⟩
theorem mkn_dict0 : MkN tDNewK σ (.dict []) := fun H _ k p n => k _ _ (same_new n) (.dct (by rw [newH_at n]; exact upd_same) .nil)
end
end V2

set_option maxHeartbeats 4000000
/-! V2g: data made beside a hand at a and a list at f, from the heap H0 on (old data may be within) -/
namespace V2
open PySem PySem.Spec PyProof.Rows L2 V1
def MkR (H0 : Hp) (a f : Addr) (te : TE) (σ : L2.St) (d : PyData) : Prop := ∀ H, Same H0 H → ∀ Q : VK, (∀ v H', Same H H' → Dq (delH (delH H' a) f) v d → Q v H') → te σ H Q
def MkRA (H0 : Hp) (a f : Addr) (ta : TA) (σ : L2.St) (ds : List PyData) : Prop := ∀ H, Same H0 H → ∀ Q : List V → Hp → Prop, (∀ vs H', Same H H' → DqAll (delH (delH H' a) f) vs ds → Q vs H') → ta σ H Q
section
variable {H0 : Hp} {a f : Addr} {σ : L2.St} {d : PyData} {ds : List PyData} {te : TE} {ta : TA}
theorem mkr_new (ha : Held H0 a) (hf : Held H0 f) (h : MkN te σ d) : MkR H0 a f te σ d := fun H s Q k => h H Q fun v H' s' q => k v H' s' (Dq.same (newH_off2 (ha.same s) (hf.same s)) _ _ q)
theorem mkra_nil : MkRA H0 a f tNil σ [] := fun H _ _ k => k [] H (Same.refl H) .nil
theorem mkra_cons (h : MkR H0 a f te σ d) (r : MkRA H0 a f ta σ ds) : MkRA H0 a f (tCons te ta) σ (d :: ds) := fun H s _ k => h H s _ fun v H1 s1 q1 => r H1 (s.trans s1) _ fun vs H2 s2 q2 =>
  k (v :: vs) H2 (s1.trans s2) (.cons (Dq.same (same_del (same_del s2)) d v q1) q2)
theorem mkr_lst (ha : Held H0 a) (hf : Held H0 f) (r : MkRA H0 a f ta σ ds) (hz : ds.length ≤ 1000) : MkR H0 a f (tLstS ta) σ (.list ds) := fun H s _ k => r H s _ fun vs H1 s1 q1 =>
  ⟨Nat.le_of_lt (small1000 (by rw [dqAll_len q1]; exact hz)), fun p n low => k _ _ (s1.trans (same_new n)) (.lst (by
    obtain ⟨u, hu⟩ := ha.same (s.trans s1)
    obtain ⟨w, hw⟩ := hf.same (s.trans s1)
    rw [delH_ne (Ne.symm (ne_of_none hw n)), delH_ne (Ne.symm (ne_of_none hu n))]
    exact upd_same) low (DqAll.same (same_del (same_del (same_new n))) ds vs q1))⟩
/-- what stands already -/
theorem mkr_old {v : V} (h : Dq (delH (delH H0 a) f) v d) (ht : ∀ H, Same H0 H → ∀ Q : VK, Q v H → te σ H Q) : MkR H0 a f te σ d := fun H s Q k => ht H s Q (k v H (Same.refl H) (Dq.same (same_del (same_del s)) _ _ h))
end
end V2

set_option maxHeartbeats 0
namespace K08
open PySem PySem.Spec PyProof.Rows L2 V1
def top (i : Nat) : Stmt := PySem.Challenge.pw_turnedtalk_k08_whole_schedules_judged.main.body.getD i (.Pass ⟨0, 0, 0, 0⟩)
abbrev s_is_integer : Stmt := top 1
def d_is_integer : He.DefD := ⟨("is_integer", none), "is_integer", "is_integer", defArgs s_is_integer, defBody s_is_integer, defScope s_is_integer, [], []⟩
abbrev s_is_from_to : Stmt := top 2
def d_is_from_to : He.DefD := ⟨("is_from_to", none), "is_from_to", "is_from_to", defArgs s_is_from_to, defBody s_is_from_to, defScope s_is_from_to, [], []⟩
abbrev s_is_tuple_of : Stmt := top 3
def d_is_tuple_of : He.DefD := ⟨("is_tuple_of", none), "is_tuple_of", "is_tuple_of", defArgs s_is_tuple_of, defBody s_is_tuple_of, defScope s_is_tuple_of, [], []⟩
abbrev s_is_house : Stmt := top 4
def d_is_house : He.DefD := ⟨("is_house", none), "is_house", "is_house", defArgs s_is_house, defBody s_is_house, defScope s_is_house, [], []⟩
abbrev s_is_lot : Stmt := top 5
def d_is_lot : He.DefD := ⟨("is_lot", none), "is_lot", "is_lot", defArgs s_is_lot, defBody s_is_lot, defScope s_is_lot, [], []⟩
abbrev s_is_letter : Stmt := top 21
def d_is_letter : He.DefD := ⟨("is_letter", none), "is_letter", "is_letter", defArgs s_is_letter, defBody s_is_letter, defScope s_is_letter, [], []⟩
abbrev s_check_letters : Stmt := top 22
def d_check_letters : He.DefD := ⟨("check_letters", none), "check_letters", "check_letters", defArgs s_check_letters, defBody s_check_letters, defScope s_check_letters, [], []⟩
abbrev s_turns_line : Stmt := top 24
def d_turns_line : He.DefD := ⟨("turns_line", none), "turns_line", "turns_line", defArgs s_turns_line, defBody s_turns_line, defScope s_turns_line, [], []⟩
abbrev s_both_line : Stmt := top 25
def d_both_line : He.DefD := ⟨("both_line", none), "both_line", "both_line", defArgs s_both_line, defBody s_both_line, defScope s_both_line, [], []⟩
abbrev s_is_tie : Stmt := top 26
def d_is_tie : He.DefD := ⟨("is_tie", none), "is_tie", "is_tie", defArgs s_is_tie, defBody s_is_tie, defScope s_is_tie, [], []⟩
abbrev s_is_net : Stmt := top 27
def d_is_net : He.DefD := ⟨("is_net", none), "is_net", "is_net", defArgs s_is_net, defBody s_is_net, defScope s_is_net, [], []⟩
abbrev s_net_schedule : Stmt := top 28
def d_net_schedule : He.DefD := ⟨("net_schedule", none), "net_schedule", "net_schedule", defArgs s_net_schedule, defBody s_net_schedule, defScope s_net_schedule, [], []⟩
abbrev s_without : Stmt := top 29
def d_without : He.DefD := ⟨("without", none), "without", "without", defArgs s_without, defBody s_without, defScope s_without, [], []⟩
abbrev s__law_hand : Stmt := top 31
def d__law_hand : He.DefD := ⟨("_law_hand", none), "_law_hand", "_law_hand", defArgs s__law_hand, defBody s__law_hand, defScope s__law_hand, [], []⟩
abbrev s__law_draw : Stmt := top 32
def d__law_draw : He.DefD := ⟨("_law_draw", none), "_law_draw", "_law_draw", defArgs s__law_draw, defBody s__law_draw, defScope s__law_draw, [], []⟩
abbrev s__law_some : Stmt := top 33
def d__law_some : He.DefD := ⟨("_law_some", none), "_law_some", "_law_some", defArgs s__law_some, defBody s__law_some, defScope s__law_some, [], []⟩
abbrev s__law_is : Stmt := top 34
def d__law_is : He.DefD := ⟨("_law_is", none), "_law_is", "_law_is", defArgs s__law_is, defBody s__law_is, defScope s__law_is, [], []⟩
abbrev s__law_is_number : Stmt := top 35
def d__law_is_number : He.DefD := ⟨("_law_is_number", none), "_law_is_number", "_law_is_number", defArgs s__law_is_number, defBody s__law_is_number, defScope s__law_is_number, [], []⟩
abbrev s__law_deep : Stmt := top 36
def d__law_deep : He.DefD := ⟨("_law_deep", none), "_law_deep", "_law_deep", defArgs s__law_deep, defBody s__law_deep, defScope s__law_deep, [], []⟩
abbrev s__law_letters : Stmt := top 37
def d__law_letters : He.DefD := ⟨("_law_letters", none), "_law_letters", "_law_letters", defArgs s__law_letters, defBody s__law_letters, defScope s__law_letters, [], []⟩
abbrev s__law_is_letter : Stmt := top 38
def d__law_is_letter : He.DefD := ⟨("_law_is_letter", none), "_law_is_letter", "_law_is_letter", defArgs s__law_is_letter, defBody s__law_is_letter, defScope s__law_is_letter, [], []⟩
abbrev s__law_part : Stmt := top 39
def d__law_part : He.DefD := ⟨("_law_part", none), "_law_part", "_law_part", defArgs s__law_part, defBody s__law_part, defScope s__law_part, [], []⟩
abbrev s__law_spoilt : Stmt := top 40
def d__law_spoilt : He.DefD := ⟨("_law_spoilt", none), "_law_spoilt", "_law_spoilt", defArgs s__law_spoilt, defBody s__law_spoilt, defScope s__law_spoilt, [], []⟩
abbrev s__law_full : Stmt := top 41
def d__law_full : He.DefD := ⟨("_law_full", none), "_law_full", "_law_full", defArgs s__law_full, defBody s__law_full, defScope s__law_full, [], []⟩
abbrev s__law_made : Stmt := top 42
def d__law_made : He.DefD := ⟨("_law_made", none), "_law_made", "_law_made", defArgs s__law_made, defBody s__law_made, defScope s__law_made, [], []⟩
abbrev s__law_equals : Stmt := top 43
def d__law_equals : He.DefD := ⟨("_law_equals", none), "_law_equals", "_law_equals", defArgs s__law_equals, defBody s__law_equals, defScope s__law_equals, [], []⟩
abbrev s__law_lines : Stmt := top 44
def d__law_lines : He.DefD := ⟨("_law_lines", none), "_law_lines", "_law_lines", defArgs s__law_lines, defBody s__law_lines, defScope s__law_lines, [], []⟩
abbrev s__law_net : Stmt := top 45
def d__law_net : He.DefD := ⟨("_law_net", none), "_law_net", "_law_net", defArgs s__law_net, defBody s__law_net, defScope s__law_net, [], []⟩
abbrev s_law : Stmt := top 46
def d_law : He.DefD := ⟨("law", none), "law", "law", defArgs s_law, defBody s_law, defScope s_law, [], []⟩
abbrev s_BadSchedule__init__ : Stmt := inClass (top 8) 0
def d_BadSchedule__init__ : He.DefD := ⟨("BadSchedule", some "__init__"), "__init__", "BadSchedule.__init__", defArgs s_BadSchedule__init__, defBody s_BadSchedule__init__, defScope s_BadSchedule__init__, [], []⟩
abbrev s_TooMany__init__ : Stmt := inClass (top 9) 0
def d_TooMany__init__ : He.DefD := ⟨("TooMany", some "__init__"), "__init__", "TooMany.__init__", defArgs s_TooMany__init__, defBody s_TooMany__init__, defScope s_TooMany__init__, [], []⟩
abbrev s_Schedule__init__ : Stmt := inClass (top 23) 0
def d_Schedule__init__ : He.DefD := ⟨("Schedule", some "__init__"), "__init__", "Schedule.__init__", defArgs s_Schedule__init__, defBody s_Schedule__init__, defScope s_Schedule__init__, [], []⟩
abbrev s_Schedule__eq__ : Stmt := inClass (top 23) 1
def d_Schedule__eq__ : He.DefD := ⟨("Schedule", some "__eq__"), "__eq__", "Schedule.__eq__", defArgs s_Schedule__eq__, defBody s_Schedule__eq__, defScope s_Schedule__eq__, [], []⟩
def fn : List He.DefD := [d_is_integer, d_is_from_to, d_is_tuple_of, d_is_house, d_is_lot, d_is_letter, d_check_letters, d_turns_line, d_both_line, d_is_tie, d_is_net, d_net_schedule, d_without, d__law_hand, d__law_draw, d__law_some, d__law_is, d__law_is_number, d__law_deep, d__law_letters, d__law_is_letter, d__law_part, d__law_spoilt, d__law_full, d__law_made, d__law_equals, d__law_lines, d__law_net, d_law, d_BadSchedule__init__, d_TooMany__init__, d_Schedule__init__, d_Schedule__eq__]
def fa0 : List He.Fa := [.glo "is_integer", .glo "is_from_to", .glo "is_tuple_of", .glo "is_house", .glo "is_lot", .glo "TalkError", .glo "BadSchedule", .glo "TooMany", .glo "NoNumber", .glo "NoNet", .glo "NoLetters", .glo "Wordless", .int "LEAST_HOUSES" 2, .int "MOST_HOUSES" 8, .int "MOST_LETTERS" 60, .int "MOST_BEATS" 60, .int "BEATS_END" 1000, .glo "is_letter", .glo "check_letters", .glo "Schedule"]
def fa1 : List He.Fa := [.glo "turns_line", .glo "both_line", .glo "is_tie", .glo "is_net", .glo "net_schedule", .glo "without", .glo "_law_hand", .glo "_law_draw", .glo "_law_some", .glo "_law_is", .glo "_law_is_number", .glo "_law_deep", .glo "_law_letters", .glo "_law_is_letter", .glo "_law_part", .glo "_law_spoilt", .glo "_law_full", .glo "_law_made", .glo "_law_equals", .glo "_law_lines"]
def fa2 : List He.Fa := [.glo "_law_net", .glo "law", .free "ValueError", .free "abs", .free "all", .free "bool", .free "enumerate", .free "int", .free "isinstance", .free "len", .free "list", .free "max", .free "min", .free "range", .free "str", .free "tuple", .meth "BadSchedule" "__init__", .meth "TooMany" "__init__", .noat "BadSchedule" "part", .noat "TooMany" "most"]
def fa3 : List He.Fa := [.exc "NoNumber", .exc "NoNet", .exc "NoLetters", .exc "TalkError", .cls "Schedule", .noat "Schedule" "letters", .noat "Schedule" "many", .mkr "Schedule", .meth "Schedule" "__init__", .meth "Schedule" "__eq__"]
def fa : List He.Fa := fa0 ++ (fa1 ++ (fa2 ++ (fa3)))
def errs : List Str := ["BadSchedule", "TooMany", "NoNumber", "NoNet", "NoLetters"]
def plainC : List Str := ["Schedule"]
def exB0 (K : PySem.W.Frag) : Bool :=
  oexB K (He.ga K "TalkError") veB && (errs.all (fun x => oexB K (He.ga K x) (.ref (He.ga K "TalkError") :: veB)) && (decide ((He.ga K "TalkError" :: errs.map (He.ga K)).Nodup) && clsAttrB K))
def exB (K : PySem.W.Frag) : Bool := exB0 K && plainC.all fun x => V2.insB K (He.ga K x)
abbrev AlE : Type := He.AlD × Bool
def obsE (g : Addr → Option Obj) : AlE := (He.obsD fa fn (He.frG g (He.asD g 4)), exB (He.frG g (He.asD g 4)))
def hk : PySem.W.Hook where
  α := AlE
  obs := fun s => obsE s.heap.get?
  val := fun _ => (He.valD fn, true)
  says := fun _ h => ∃ K : PySem.W.Frag, K.In h ∧ He.SaysD fa fn K ∧ exB K = true
  of := fun _ _ e => ⟨_, He.frG_in, congrArg (fun z : AlE => z.1) e, congrArg (fun z : AlE => z.2) e⟩
  keeps := fun _ _ _ ⟨K, inK, c⟩ k => ⟨K, PySem.W.Frag.In.keeps inK k, c⟩
theorem obsE_eq {g : Addr → Option Obj} {s : Shared} (h : ∀ a, g a = s.heap.get? a) : obsE g = hk.obs s := by
  have same : g = s.heap.get? := funext h
  rw [same] <;> rfl
abbrev R : PySem.W.OpenRow := PySem.W.OpenLaw.row PySem.Challenge.rw_turnedtalk_k08_whole_schedules_judged
def ob (s : PySem.W.SharedT) : AlE := obsE (HandSHeadRun.getT s)
theorem ob_eq (s : PySem.W.SharedT) : ob s = hk.obs s.abs := obsE_eq (HandSHeadRun.getT_eq s)
def nm0 : List PySem.Str := ["is_integer", "is_from_to", "is_tuple_of", "is_house", "is_lot", "TalkError", "BadSchedule", "TooMany", "NoNumber", "NoNet", "NoLetters", "Wordless", "LEAST_HOUSES", "MOST_HOUSES", "MOST_LETTERS", "MOST_BEATS", "BEATS_END", "is_letter", "check_letters", "Schedule", "turns_line", "both_line", "is_tie", "is_net", "net_schedule"]
def nm1 : List PySem.Str := ["without", "_law_hand", "_law_draw", "_law_some", "_law_is", "_law_is_number", "_law_deep", "_law_letters", "_law_is_letter", "_law_part", "_law_spoilt", "_law_full", "_law_made", "_law_equals", "_law_lines", "_law_net"]
def names : List PySem.Str := nm0 ++ (nm1)
theorem run (w : World) : HandSHeadRun.RunEq R (PySem.W.view R.prog [46]) hk ob 60000 names w := by
  intro os
  kernel_rfl
structure Tx (K : PySem.W.Frag) (mg : Str → Option Value) : Prop where
  c : He.SaysD fa fn K
  ex : exB K = true
  h : ∃ h : Heap, K.In h ∧ h.Ns mainGlobals mg
section
variable {K : PySem.W.Frag} {mg : Str → Option Value}
theorem Tx.glo (T : Tx K mg) (i : Nat) {x : Str} (e : fa[i]? = some (.glo x)) : mg x = some (.ref (He.ga K x)) := by
  obtain ⟨h, X, G⟩ := T.h
  exact He.glo_ok X G (T.c.fact i e)
theorem Tx.free (T : Tx K mg) (i : Nat) {x : Str} (e : fa[i]? = some (.free x)) : mg x = none := by
  obtain ⟨h, X, G⟩ := T.h
  exact He.free_ok X G (T.c.fact i e)
theorem Tx.int (T : Tx K mg) (i : Nat) {x : Str} {n : Int} (e : fa[i]? = some (.int x n)) : ∃ t, mg x = some (.int n t) := by
  obtain ⟨h, X, G⟩ := T.h
  exact He.int_ok X G (T.c.fact i e)
theorem Tx.noat (T : Tx K mg) (i : Nat) {x f : Str} (e : fa[i]? = some (.noat x f)) : PySem.W.findIn K (.ref (He.ga K x)) f = some none := He.noat_ok (T.c.fact i e)
theorem Tx.exq (T : Tx K mg) (i : Nat) {x : Str} (e : fa[i]? = some (.exc x)) : PySem.W.excIn K (He.ga K x) He.veBase "ValueError.__new__" = true ∧ PySem.W.keepIn K (.ref (He.ga K x)) = true := by
  have z := He.exc_ok (T.c.fact i e)
  exact ⟨z.1, z.2.1⟩
end
end K08


set_option maxHeartbeats 4000000
namespace V2
open PySem PySem.Spec PyProof.Rows L2 V1
def fromTo (lo hi : Int) : PyData → Bool
  | .int n => decide (lo ≤ n) && decide (n ≤ hi)
  | _ => false
def tupOf (lo hi : Int) : PyData → Bool
  | .tuple xs => decide (lo ≤ (xs.length : Int)) && decide ((xs.length : Int) ≤ hi)
  | _ => false
theorem fromTo_int {lo hi : Int} {d : PyData} (h : fromTo lo hi d = true) : ∃ n, d = .int n ∧ lo ≤ n ∧ n ≤ hi := by
  cases d with
  | int n =>
    have z : decide (lo ≤ n) = true ∧ decide (n ≤ hi) = true := by simpa [fromTo] using h
    exact ⟨n, rfl, of_decide_eq_true z.1, of_decide_eq_true z.2⟩
  | _ => cases h
theorem tupOf_tup {lo hi : Int} {d : PyData} (h : tupOf lo hi d = true) : ∃ xs, d = .tuple xs ∧ lo ≤ (xs.length : Int) ∧ (xs.length : Int) ≤ hi := by
  cases d with
  | tuple xs =>
    have z : decide (lo ≤ (xs.length : Int)) = true ∧ decide ((xs.length : Int) ≤ hi) = true := by simpa [tupOf] using h
    exact ⟨xs, rfl, of_decide_eq_true z.1, of_decide_eq_true z.2⟩
  | _ => cases h
theorem isInt_int {d : PyData} (h : isInt d = true) : ∃ n, d = .int n := by
  cases d with
  | int n => exact ⟨n, rfl⟩
  | _ => cases h
theorem isTup_tup {d : PyData} (h : isTup d = true) : ∃ n, d = .tuple n := by
  cases d with
  | tuple n => exact ⟨n, rfl⟩
  | _ => cases h
theorem Dq.int_inv {H : Hp} {v : V} {n : Int} (h : Dq H v (.int n)) : v = .int n := by
  cases h
  rfl
theorem Dq.tup_inv {H : Hp} {v : V} {ds : List PyData} (h : Dq H v (.tuple ds)) : ∃ a vs, v = .ref a ∧ H a = some (.tup vs) ∧ DqAll H vs ds := by
  cases h with
  | tup e r => exact ⟨_, _, rfl, e, r⟩
end V2
namespace K08
open PySem PySem.Spec PyProof.Rows L2 V1 V2
open Evl (pss_cut tCut sq_of st_of)
/-- a letter of a schedule of so many houses -/
def letterOf (many : Int) : PyData → Bool
  | .tuple [a, b, c] => fromTo 0 (many - 1) a && (fromTo 0 (many - 1) b && (!(PyData.eqv a b) && fromTo 0 999 c))
  | _ => false
def spInteger : Sp := fun vs H Q _ => ∃ v d, vs = [v] ∧ Dq H v d ∧ Q (.bl (isInt d)) H
def spFromTo : Sp := fun vs H Q _ => ∃ v d lo hi, vs = [v, .int lo, .int hi] ∧ Dq H v d ∧ Q (.bl (fromTo lo hi d)) H
def spTupOf : Sp := fun vs H Q _ => ∃ v d lo hi, vs = [v, .int lo, .int hi] ∧ Dq H v d ∧ Q (.bl (tupOf lo hi d)) H
def spHouse : Sp := fun vs H Q _ => ∃ v d m, vs = [v, .int m] ∧ Dq H v d ∧ Q (.bl (fromTo 0 (m - 1) d)) H
def spLetter : Sp := fun vs H Q _ => ∃ v d m, vs = [v, .int m] ∧ Dq H v d ∧ Q (.bl (letterOf m d)) H
theorem scInteger : FnScope ["thing"] ["thing"] (defScope s_is_integer) := ⟨rfl, rfl, rfl, by decide +kernel, rfl, by decide +kernel, by decide +kernel⟩
theorem scFromTo : FnScope ["thing", "least", "most"] ["thing", "least", "most"] (defScope s_is_from_to) := ⟨rfl, rfl, rfl, by decide +kernel, rfl, by decide +kernel, by decide +kernel⟩
theorem scTupOf : FnScope ["thing", "least", "most"] ["thing", "least", "most"] (defScope s_is_tuple_of) := ⟨rfl, rfl, rfl, by decide +kernel, rfl, by decide +kernel, by decide +kernel⟩
theorem scHouse : FnScope ["thing", "many"] ["thing", "many"] (defScope s_is_house) := ⟨rfl, rfl, rfl, by decide +kernel, rfl, by decide +kernel, by decide +kernel⟩
theorem scLetter : FnScope ["thing", "many"] ["thing", "many"] (defScope s_is_letter) := ⟨rfl, rfl, rfl, by decide +kernel, rfl, by decide +kernel, by decide +kernel⟩
section
variable {P : Program} {w : World} {K : PySem.W.Frag} {mg : Str → Option Value} {base : Heap}
theorem ok_integer (T : Tx K mg) : Has P w K mg base CX0 1 "is_integer" ["thing"] spInteger := by
  obtain ⟨fd, F⟩ := T.c.def_ 0 (d := d_is_integer) rfl
  refine ⟨fd, F.ok scInteger (fun vs H Q E h => ?_) (fun cdv A outer s H vs Q E hr h => ?_), FunD.bindsN F fun _ _ _ _ _ _ us hl => match us, hl with | [_], _ => rfl, F.kp, (T.glo 0 rfl)⟩
  · obtain ⟨v, d, rfl, _⟩ := h
    rfl
  · refine ⟨_, PSs.nox (pss_one (ps_ret (pe_and (pe_callB call_isi (by rfl) (T.free 48 rfl) (by decide +kernel) (pa_cons (pv 0) (pa_cons (pe_bltn (v := .ty "int") (by rfl) (T.free 47 rfl) (by decide +kernel) rfl) pa_nil))) (pe_one (pe_not (pe_callB call_isi (by rfl) (T.free 48 rfl) (by decide +kernel) (pa_cons (pv 0) (pa_cons (pe_bltn (v := .ty "bool") (by rfl) (T.free 45 rfl) (by decide +kernel) rfl) pa_nil)))))))), ?_⟩
    obtain ⟨v, d, rfl, hd, hQ⟩ := h
    refine isi_go (kit_int d) (fun Q q => ⟨v, rfl, q⟩) hd ⟨_, rfl, ite2 (fun e => ?_) (fun e => ?_)⟩
    · refine isi_go (kit_bool d) (fun Q q => ⟨v, rfl, q⟩) hd ⟨_, rfl, ?_⟩
      cases d <;> first | exact hQ | cases e
    · cases d <;> first | exact hQ | exact absurd rfl e
theorem ok_fromTo (T : Tx K mg) : Has P w K mg base CX0 2 "is_from_to" ["thing", "least", "most"] spFromTo := by
  obtain ⟨fd, F⟩ := T.c.def_ 1 (d := d_is_from_to) rfl
  have Hi := ok_integer (P := P) (w := w) (base := base) T
  refine ⟨fd, F.ok scFromTo (fun vs H Q E h => ?_) (fun cdv A outer s H vs Q E hr h => ?_), FunD.bindsN F fun _ _ _ _ _ _ us hl => match us, hl with | [_, _, _], _ => rfl, F.kp, (T.glo 1 rfl)⟩
  · obtain ⟨v, d, lo, hi, rfl, _⟩ := h
    rfl
  · refine ⟨_, PSs.nox (pss_one (ps_ret (pe_and (pe_has Hi (hr.mono (by decide)) pass0 (pa_cons (pv 0) pa_nil)) (pe_one (pe_chain op_le op_le (pv 1) (pv 0) (pv 2)))))), ?_⟩
    obtain ⟨v, d, lo, hi, rfl, hd, hQ⟩ := h
    refine ⟨v, rfl, v, d, rfl, hd, _, rfl, ite2 (fun e => ?_) (fun e => ?_)⟩
    · obtain ⟨n, rfl⟩ := isInt_int e
      obtain rfl := Dq.int_inv hd
      refine ⟨_, rfl, _, rfl, lo, n, rfl, rfl, _, rfl, ite2 (fun e1 => ?_) (fun e1 => ?_)⟩
      · refine ⟨_, rfl, n, hi, rfl, rfl, ?_⟩
        have z : fromTo lo hi (.int n) = decide (n ≤ hi) := by
          show (decide (lo ≤ n) && _) = _
          rw [e1, Bool.true_and]
        rw [z] at hQ
        exact hQ
      · have z : fromTo lo hi (.int n) = false := by
          show (decide (lo ≤ n) && _) = _
          rw [Bool.eq_false_iff.mpr e1, Bool.false_and]
        rw [z] at hQ
        exact hQ
    · cases d <;> first | exact hQ | exact absurd rfl e
theorem ok_tupOf (T : Tx K mg) : Has P w K mg base CX0 1 "is_tuple_of" ["thing", "least", "most"] spTupOf := by
  obtain ⟨fd, F⟩ := T.c.def_ 2 (d := d_is_tuple_of) rfl
  refine ⟨fd, F.ok scTupOf (fun vs H Q E h => ?_) (fun cdv A outer s H vs Q E hr h => ?_), FunD.bindsN F fun _ _ _ _ _ _ us hl => match us, hl with | [_, _, _], _ => rfl, F.kp, (T.glo 2 rfl)⟩
  · obtain ⟨v, d, lo, hi, rfl, _⟩ := h
    rfl
  · refine ⟨_, PSs.nox (pss_one (ps_ret (pe_and (pe_callB call_isi (by rfl) (T.free 48 rfl) (by decide +kernel) (pa_cons (pv 0) (pa_cons (pe_bltn (v := .ty "tuple") (by rfl) (T.free 55 rfl) (by decide +kernel) rfl) pa_nil))) (pe_one (pe_chain op_le op_le (pv 1) (pe_callB call_len (by rfl) (T.free 49 rfl) PySem.boot_len (pa_cons (pv 0) pa_nil)) (pv 2)))))), ?_⟩
    obtain ⟨v, d, lo, hi, rfl, hd, hQ⟩ := h
    refine isi_go (kit_tup d) (fun Q q => ⟨v, rfl, q⟩) hd ⟨_, rfl, ite2 (fun e => ?_) (fun e => ?_)⟩
    · obtain ⟨xs, rfl⟩ := isTup_tup e
      obtain ⟨a, vs, rfl, hv, hr⟩ := Dq.tup_inv hd
      have len := dqAll_len hr
      refine ⟨_, rfl, _, rfl, _, _, rfl, .inr ⟨vs, st_of hv, rfl⟩, lo, _, rfl, rfl, _, rfl, ite2 (fun e1 => ?_) (fun e1 => ?_)⟩
      · refine ⟨_, rfl, _, hi, rfl, rfl, ?_⟩
        rw [len] at e1 ⊢
        have z : tupOf lo hi (.tuple xs) = decide ((xs.length : Int) ≤ hi) := by
          show (decide (lo ≤ (xs.length : Int)) && _) = _
          rw [e1, Bool.true_and]
        rw [z] at hQ
        exact hQ
      · rw [len] at e1
        have z : tupOf lo hi (.tuple xs) = false := by
          show (decide (lo ≤ (xs.length : Int)) && _) = _
          rw [Bool.eq_false_iff.mpr e1, Bool.false_and]
        rw [z] at hQ
        exact hQ
    · cases d <;> first | exact hQ | exact absurd rfl e
theorem ok_house (T : Tx K mg) : Has P w K mg base CX0 3 "is_house" ["thing", "many"] spHouse := by
  obtain ⟨fd, F⟩ := T.c.def_ 3 (d := d_is_house) rfl
  have Hf := ok_fromTo (P := P) (w := w) (base := base) T
  refine ⟨fd, F.ok scHouse (fun vs H Q E h => ?_) (fun cdv A outer s H vs Q E hr h => ?_), FunD.bindsN F fun _ _ _ _ _ _ us hl => match us, hl with | [_, _], _ => rfl, F.kp, (T.glo 3 rfl)⟩
  · obtain ⟨v, d, m, rfl, _⟩ := h
    rfl
  · refine ⟨_, PSs.nox (pss_one (ps_ret (pe_has Hf (hr.mono (by decide)) pass0 (pa_cons (pv 0) (pa_cons pe_int (pa_cons (pe_op op_sub (pv 1) pe_int) pa_nil)))))), ?_⟩
    obtain ⟨v, d, m, rfl, hd, hQ⟩ := h
    exact ⟨v, rfl, _, rfl, _, _, rfl, rfl, v, d, 0, m - 1, rfl, hd, hQ⟩
theorem letterOf_not {m : Int} {d : PyData} (h : ∀ a b c, d = .tuple [a, b, c] → False) : letterOf m d = false := by
  unfold letterOf
  split
  · exact (h _ _ _ rfl).elim
  · rfl
theorem ok_letter (T : Tx K mg) : Has P w K mg base CX0 4 "is_letter" ["thing", "many"] spLetter := by
  obtain ⟨fd, F⟩ := T.c.def_ 5 (d := d_is_letter) rfl
  have Hf := ok_fromTo (P := P) (w := w) (base := base) T
  have Hh := ok_house (P := P) (w := w) (base := base) T
  have Ht := ok_tupOf (P := P) (w := w) (base := base) T
  obtain ⟨tB, gB⟩ := (T.int 16 rfl)
  refine ⟨fd, F.ok scLetter (fun vs H Q E h => ?_) (fun cdv A outer s H vs Q E hr h => ?_), FunD.bindsN F fun _ _ _ _ _ _ us hl => match us, hl with | [_, _], _ => rfl, F.kp, (T.glo 17 rfl)⟩
  · obtain ⟨v, d, m, rfl, _⟩ := h
    rfl
  · refine ⟨_, PSs.nox (pss_one (ps_ret (pe_and (pe_has Ht (hr.mono (by decide)) pass0 (pa_cons (pv 0) (pa_cons pe_int (pa_cons pe_int pa_nil)))) (pe_and (pe_has Hh (hr.mono (by decide)) pass0 (pa_cons (pe_ix ix_tup (pv 0) pe_int (fun _ _ => rfl)) (pa_cons (pv 1) pa_nil))) (pe_and (pe_has Hh (hr.mono (by decide)) pass0 (pa_cons (pe_ix ix_tup (pv 0) pe_int (fun _ _ => rfl)) (pa_cons (pv 1) pa_nil))) (pe_and (pe_cmpR op_ne (pe_ix ix_tup (pv 0) pe_int (fun _ _ => rfl)) (pe_ix ix_tup (pv 0) pe_int (fun _ _ => rfl)) (nomark _)) (pe_one (pe_has Hf (hr.mono (by decide)) pass0 (pa_cons (pe_ix ix_tup (pv 0) pe_int (fun _ _ => rfl)) (pa_cons pe_int (pa_cons (pe_op op_sub (pe_glob (v := .int 1000) (by rfl) gB ⟨tB, rfl⟩) pe_int) pa_nil))))))))))), ?_⟩
    obtain ⟨v, d, m, rfl, hd, hQ⟩ := h
    refine ⟨v, rfl, v, d, 3, 3, rfl, hd, _, rfl, ite2 (fun e => ?_) (fun e => ?_)⟩
    · obtain ⟨xs, rfl, l1, l2⟩ := tupOf_tup e
      have l3 : xs.length = 3 := by omega
      match xs, l3 with
      | [a, b, c], _ =>
      obtain ⟨p, vs, rfl, hp, hr⟩ := Dq.tup_inv hd
      cases hr with | @cons va _ _ _ qa r1 =>
      cases r1 with | @cons vb _ _ _ qb r2 =>
      cases r2 with | @cons vc _ _ _ qc r3 =>
      cases r3
      refine ⟨_, rfl, p, _, 0, va, rfl, rfl, st_of hp, rfl, _, rfl, va, a, m, rfl, qa, _, rfl, ite2 (fun e1 => ?_) (fun e1 => ?_)⟩
      · refine ⟨_, rfl, p, _, 1, vb, rfl, rfl, st_of hp, rfl, _, rfl, vb, b, m, rfl, qb, _, rfl, ite2 (fun e2 => ?_) (fun e2 => ?_)⟩
        · have z : letterOf m (.tuple [a, b, c]) = (!(PyData.eqv a b) && fromTo 0 999 c) := by
            show (fromTo 0 (m - 1) a && (fromTo 0 (m - 1) b && _)) = _
            rw [e1, e2, Bool.true_and, Bool.true_and]
          obtain ⟨i, rfl, _⟩ := fromTo_int e1
          obtain ⟨j, rfl, _⟩ := fromTo_int e2
          obtain rfl := Dq.int_inv qa
          obtain rfl := Dq.int_inv qb
          have ne : (!decide (V.int i = V.int j)) = !(PyData.eqv (.int i) (.int j)) := by
            rw [dec_int]
            rfl
          refine ⟨_, rfl, p, _, 0, _, rfl, rfl, st_of hp, rfl, _, rfl, p, _, 1, _, rfl, rfl, st_of hp, rfl, rfl, _, rfl, ite2 (fun e3 => ?_) (fun e3 => ?_)⟩
          · rw [ne] at e3
            rw [e3, Bool.true_and] at z
            rw [z] at hQ
            exact ⟨_, rfl, p, _, 2, vc, rfl, rfl, st_of hp, rfl, _, _, rfl, rfl, vc, c, 0, 999, rfl, qc, hQ⟩
          · rw [ne] at e3
            rw [Bool.eq_false_iff.mpr e3, Bool.false_and] at z
            rw [z] at hQ
            exact hQ
        · have z : letterOf m (.tuple [a, b, c]) = false := by
            show (fromTo 0 (m - 1) a && (fromTo 0 (m - 1) b && _)) = _
            rw [e1, Bool.eq_false_iff.mpr e2]
            rfl
          rw [z] at hQ
          exact hQ
      · have z : letterOf m (.tuple [a, b, c]) = false := by
          show (fromTo 0 (m - 1) a && _) = _
          rw [Bool.eq_false_iff.mpr e1]
          rfl
        rw [z] at hQ
        exact hQ
    · have z : letterOf m d = false := letterOf_not fun a b c q => e (by rw [q]; rfl)
      rw [z] at hQ
      exact hQ
end
end K08

set_option maxHeartbeats 4000000
namespace V2
open PySem PySem.Spec PyProof.Rows L2 V1
theorem DqAll.at {H : Hp} : ∀ {vs : List V} {ds : List PyData} {j : Nat} {v : V} {d : PyData}, DqAll H vs ds → vs[j]? = some v → ds[j]? = some d → Dq H v d
  | _ :: _, _ :: _, 0, _, _, .cons one _, e, e' => by
    obtain rfl := Option.some.inj e
    obtain rfl := Option.some.inj e'
    exact one
  | _ :: _, _ :: _, j + 1, _, _, .cons _ more, e, e' => DqAll.at (j := j) more e e'
theorem DqAll.take {H : Hp} : ∀ {vs : List V} {ds : List PyData} (n : Nat), DqAll H vs ds → DqAll H (vs.take n) (ds.take n)
  | _, _, 0, _ => by
    rw [List.take_zero, List.take_zero]
    exact .nil
  | _, _, _ + 1, .nil => .nil
  | _, _, n + 1, .cons one more => .cons one (DqAll.take n more)
theorem plainAll_of : ∀ {ds : List PyData}, (∀ d ∈ ds, plain d = true) → plainAll ds = true
  | [], _ => rfl
  | d :: ds, h => by
    have h1 := h d List.mem_cons_self
    have h2 := plainAll_of fun x hx => h x (List.mem_cons_of_mem _ hx)
    simp [plainAll, h1, h2]
theorem canLayAll_of : ∀ {ds : List PyData}, (∀ d ∈ ds, d.canLay0 = true) → PyData.canLayAll0 ds = true
  | [], _ => by simp [PyData.canLayAll0]
  | d :: ds, h => by
    have h1 := h d List.mem_cons_self
    have h2 := canLayAll_of fun x hx => h x (List.mem_cons_of_mem _ hx)
    simp [PyData.canLayAll0, h1, h2]
theorem depthAll_le {n : Nat} : ∀ {ds : List PyData}, (∀ d ∈ ds, d.depth ≤ n) → PyData.depthAll ds ≤ n
  | [], _ => by simp [PyData.depthAll]
  | d :: ds, h => by
    have h1 := h d List.mem_cons_self
    have h2 := depthAll_le fun x hx => h x (List.mem_cons_of_mem _ hx)
    simp only [PyData.depthAll]
    omega
theorem shaped_of {d : PyData} (h1 : d.canLay0 = true) (h2 : d.depth ≤ 64) : SeqAt.shaped d = true := by
  unfold SeqAt.shaped
  rw [h1, Bool.true_and]
  exact decide_eq_true h2
end V2
namespace K08
open PySem PySem.Spec PyProof.Rows L2 V1 V2
open Evl (pss_cut tCut sq_of st_of)
section
variable {K : PySem.W.Frag} {mg : Str → Option Value}
theorem Tx.exs (T : Tx K mg) : ExK K (He.ga K "TalkError") veB ∧ (∀ x ∈ errs, ExK K (He.ga K x) (.ref (He.ga K "TalkError") :: veB)) ∧ (He.ga K "TalkError" :: errs.map (He.ga K)).Nodup ∧ ClsAttr K := by
  have e := T.ex
  unfold exB exB0 at e
  simp only [Bool.and_eq_true, List.all_eq_true, decide_eq_true_eq] at e
  exact ⟨exK_of e.1.1, fun x hx => exK_of (e.1.2.1 x hx), e.1.2.2.1, clsAttr_of e.1.2.2.2⟩
theorem Tx.insK (T : Tx K mg) (i : Nat) {x : Str} (h : plainC[i]? = some x) : InsK K (He.ga K x) := by
  have e := T.ex
  unfold exB at e
  simp only [Bool.and_eq_true, List.all_eq_true] at e
  exact insK_of (e.2 x (List.mem_of_getElem? h))
theorem Tx.one (T : Tx K mg) (i : Nat) {x : Str} (h : errs[i]? = some x) : ExK K (He.ga K x) (.ref (He.ga K "TalkError") :: veB) := T.exs.2.1 x (List.mem_of_getElem? h)
end
/-- a letter, as it stands -/
def mkL (l : Int × Int × Int) : PyData := .tuple [.int l.1, .int l.2.1, .int l.2.2]
theorem letterOf_inv {m : Int} {d : PyData} (h : letterOf m d = true) : ∃ l : Int × Int × Int, d = mkL l ∧ 0 ≤ l.1 ∧ l.1 < m ∧ 0 ≤ l.2.1 ∧ l.2.1 < m ∧ l.1 ≠ l.2.1 ∧ 0 ≤ l.2.2 ∧ l.2.2 ≤ 999 := by
  unfold letterOf at h
  split at h
  · rename_i a b c
    simp only [Bool.and_eq_true] at h
    obtain ⟨h1, h2, h3, h4⟩ := h
    obtain ⟨i, rfl, i1, i2⟩ := fromTo_int h1
    obtain ⟨j, rfl, j1, j2⟩ := fromTo_int h2
    obtain ⟨k, rfl, k1, k2⟩ := fromTo_int h4
    refine ⟨(i, j, k), rfl, i1, by simp only; omega, j1, by simp only; omega, fun e => ?_, k1, k2⟩
    simp only at e
    subst e
    have z : PyData.eqv (.int i) (.int i) = true := by simp [PyData.eqv]
    rw [z] at h3
    cases h3
  · cases h
theorem mkL_canLay (l : Int × Int × Int) : (mkL l).canLay0 = true := by simp [mkL, PyData.canLay0, PyData.canLayAll0]
theorem mkL_depth (l : Int × Int × Int) : (mkL l).depth ≤ 1 := by simp [mkL, PyData.depth, PyData.depthAll]
theorem mkL_plain (l : Int × Int × Int) : V2.plain (mkL l) = true := by simp [mkL, V2.plain, plainAll]
theorem mkL_shaped (l : Int × Int × Int) : SeqAt.shaped (mkL l) = true := shaped_of (mkL_canLay l) (Nat.le_trans (mkL_depth l) (by decide))
theorem mkLs_shaped (ls : List (Int × Int × Int)) : SeqAt.shaped (.tuple (ls.map mkL)) = true := by
  refine shaped_of ?_ ?_
  · show PyData.canLayAll0 _ = true
    refine canLayAll_of fun d hd => ?_
    obtain ⟨l, _, rfl⟩ := List.mem_map.mp hd
    exact mkL_canLay l
  · have z : PyData.depthAll (ls.map mkL) ≤ 1 := depthAll_le fun d hd => by
      obtain ⟨l, _, rfl⟩ := List.mem_map.mp hd
      exact mkL_depth l
    simp only [PyData.depth]
    omega
theorem mkLs_plain (ls : List (Int × Int × Int)) : V2.plain (.tuple (ls.map mkL)) = true := by
  show plainAll _ = true
  refine plainAll_of fun d hd => ?_
  obtain ⟨l, _, rfl⟩ := List.mem_map.mp hd
  exact mkL_plain l
theorem letters_inv {m : Int} : ∀ {ds : List PyData}, (∀ d ∈ ds, letterOf m d = true) → ∃ ls : List (Int × Int × Int), ds = ls.map mkL
  | [], _ => ⟨[], rfl⟩
  | d :: ds, h => by
    obtain ⟨l, rfl, _⟩ := letterOf_inv (h d List.mem_cons_self)
    obtain ⟨ls, rfl⟩ := letters_inv fun x hx => h x (List.mem_cons_of_mem _ hx)
    exact ⟨l :: ls, rfl⟩
def beatOf : PyData → Int
  | .tuple [_, _, .int n] => n
  | _ => 0
/-- the i-th of these is right behind those ahead -/
def okAt (m : Int) (ds : List PyData) (i : Nat) : Bool :=
  letterOf m (ds.getD i .none) && (!(decide (0 < i) && decide (beatOf (ds.getD i .none) < beatOf (ds.getD (i - 1) .none))) && !((ds.take i).any fun z => PyData.eqv z (ds.getD i .none)))
def spCheck (K : PySem.W.Frag) : Sp := fun vs H Q E => ∃ m a us ds, vs = [.int m, .ref a] ∧ H a = some (.tup us) ∧ DqAll H us ds ∧
  ((∀ i, i < ds.length → okAt m ds i = true) → ∀ H', Same H H' → Q .non H') ∧
  ∀ i, i < ds.length → okAt m ds i = false → (∀ j, j < i → okAt m ds j = true) → ∀ d H', H d = none → Same H H' → H' d = some (.xd [("part", .int i)]) → E (.ref (He.ga K "BadSchedule")) (some d) H'
theorem scCheck : FnScope ["many", "letters", "at", "letter"] ["many", "letters"] (defScope s_check_letters) := ⟨rfl, rfl, rfl, by decide +kernel, rfl, by decide +kernel, by decide +kernel⟩
theorem scBad : FnScope ["self", "part"] ["self", "part"] (defScope s_BadSchedule__init__) := ⟨rfl, rfl, rfl, by decide +kernel, rfl, by decide +kernel, by decide +kernel⟩
theorem scMost : FnScope ["self", "most"] ["self", "most"] (defScope s_TooMany__init__) := ⟨rfl, rfl, rfl, by decide +kernel, rfl, by decide +kernel, by decide +kernel⟩
section
variable {P : Program} {w : World} {K : PySem.W.Frag} {mg : Str → Option Value} {base : Heap}
theorem fldBad (T : Tx K mg) : Fld P w K mg base "BadSchedule" "part" := by
  obtain ⟨fd, F⟩ := T.c.def_ 29 (d := d_BadSchedule__init__) rfl
  exact fld_of F scBad rfl (T.glo 6 rfl) (T.one 0 rfl) rfl rfl (T.noat 58 rfl) (He.meth_ok (T.c.fact 56 rfl)) (by decide) (by decide) (Or.inl rfl) (Or.inl rfl) (fun _ => rfl) (FunD.bindsN F fun _ _ _ _ _ _ us hl => match us, hl with | [_, _], _ => rfl)
theorem fldMost (T : Tx K mg) : Fld P w K mg base "TooMany" "most" := by
  obtain ⟨fd, F⟩ := T.c.def_ 30 (d := d_TooMany__init__) rfl
  exact fld_of F scMost rfl (T.glo 7 rfl) (T.one 1 rfl) rfl rfl (T.noat 59 rfl) (He.meth_ok (T.c.fact 57 rfl)) (by decide) (by decide) (Or.inl rfl) (Or.inl rfl) (fun _ => rfl) (FunD.bindsN F fun _ _ _ _ _ _ us hl => match us, hl with | [_, _], _ => rfl)
theorem getD_at {ds : List PyData} {i : Nat} (h : i < ds.length) : ds[i]? = some (ds.getD i .none) := by
  rw [List.getElem?_eq_getElem h]
  simp [List.getD, h]
theorem okAt_letter {m : Int} {ds : List PyData} {i : Nat} (h : okAt m ds i = true) : letterOf m (ds.getD i .none) = true := (Bool.and_eq_true_iff.mp h).1
theorem ok_check (T : Tx K mg) : Has P w K mg base (L2.CX P w) 5 "check_letters" ["many", "letters"] (spCheck K) := by
  obtain ⟨fd, F⟩ := T.c.def_ 6 (d := d_check_letters) rfl
  have Hl := ok_letter (P := P) (w := w) (base := base) T
  refine ⟨fd, F.ok scCheck (fun vs H Q E h => ?_) (fun cdv A outer s H vs Q E hr h => ?_), FunD.bindsN F fun _ _ _ _ _ _ us hl => match us, hl with | [_, _], _ => rfl, F.kp, (T.glo 18 rfl)⟩
  · obtain ⟨m, a, us, ds, rfl, _⟩ := h
    rfl
  · have hu : (A.deeper (envOfC d_check_letters.qual d_check_letters.scope s.heap.objs.size (He.fAd K d_check_letters.at_) cdv)).units + 70 < cLine := by
      have := hr.un
      omega
    refine ⟨_, (pss_one (ps_for (passes_of rfl) rfl (pi_enumT (by rfl) (T.free 46 rfl) (pa_cons (pv 1) pa_nil)) (pg_tup (by rfl) (pgs_cons (pg_name (i := 2) scCheck.nd rfl (Or.inl rfl)) (pgs_cons (pg_name (i := 3) scCheck.nd rfl (Or.inl rfl)) pgs_nil)))
 (pss_cons (ps_if (pt_not (pt_val (pe_has Hl (hr.mono (by decide)) pass0 (pa_cons (pv 3) (pa_cons (pv 0) pa_nil)))))
 (pss_one (ps_raise rfl (takes_of rfl rfl rfl rfl) (pmk_fld (fldBad T) (hr.mono (by decide)) (pa_cons (pv 2) pa_nil))))
 pss_nil)
 (pss_cut (ps_if (PW.pt (pw_and (pt_cmpR op_gt (pv 2) pe_int (nomark _)) (pw_and1 (pt_cmpR op_lt (pe_ix ix_tup (pv 3) pe_int (fun _ _ => rfl)) (pe_ix ix_tup (pe_ix ix_tup (pv 1) (pe_op op_sub (pv 2) pe_int) (fun _ _ => rfl)) pe_int (fun _ _ => rfl)) (nomark _)))))
 (pss_one (ps_raise rfl (takes_of rfl rfl rfl rfl) (pmk_fld (fldBad T) (hr.mono (by decide)) (pa_cons (pv 2) pa_nil))))
 pss_nil)
 (pss_one (ps_if (pt_cmpR (op_inT hu) (pv 3) (pe_slice sl_tup (pv 1) po_none (po_some (pv 2))) (by rfl))
 (pss_one (ps_raise rfl (takes_of rfl rfl rfl rfl) (pmk_fld (fldBad T) (hr.mono (by decide)) (pa_cons (pv 2) pa_nil))))
 pss_nil)))))), ?_⟩
    obtain ⟨m, a, us, ds, rfl, ha, hr', hQ, hE⟩ := h
    have len := dqAll_len hr'
    refine ⟨_, rfl, a, us, rfl, st_of ha, ?_⟩
    refine for_it walk_enumT (fun i σ H' => Same H H' ∧ (∃ o1 o2, σ = [some (.int m), some (.ref a), o1, o2]) ∧ ∀ j, j < i → okAt m ds j = true) ⟨Same.refl H, ⟨_, _, rfl⟩, fun j hj => absurd hj (Nat.not_lt_zero j)⟩ (fun i σ H' _ p => st_of (p.1 _ _ ha)) ?_ (fun σ H' p => hQ (fun i hi => p.2.2 i (by omega)) H' p.1)
    rintro i x σ H1 H2 hi ⟨s1, ⟨o1, o2, rfl⟩, hok⟩ ⟨p, z1, v, rfl, np, rfl, e1, e2⟩
    obtain rfl := Option.some.inj e1
    have hi' : i < ds.length := by omega
    have s2 : Same H (upd H1 p (.tup [.int (i : Nat), v])) := s1.trans (same_new np)
    have ha2 := s2 _ _ ha
    have hv : Dq (upd H1 p (.tup [.int (i : Nat), v])) v (ds.getD i .none) := Dq.same s2 _ _ (DqAll.at hr' e2 (getD_at hi'))
    have boom : okAt m ds i = false → ∀ Z : Hp, Same H Z → tMkO (He.ga K "BadSchedule") (spIni K (He.ga K "BadSchedule") "part") [] (tCons (tVar 2) tNil) [some (.int m), some (.ref a), some (.int (i : Nat)), some v] Z E := fun e Z sz =>
      raise_go (v := .int (i : Nat)) (fun Q q => ⟨_, rfl, q⟩) fun d H' nd sm hd => hE i hi' e hok d H' (fresh_up sz nd) (sz.trans sm) hd
    refine ⟨p, _, rfl, st_of upd_same, rfl, ?_⟩
    have look : okAt m ds i = (letterOf m (ds.getD i .none) && (!(decide (0 < i) && decide (beatOf (ds.getD i .none) < beatOf (ds.getD (i - 1) .none))) && !((ds.take i).any fun z => PyData.eqv z (ds.getD i .none)))) := rfl
    refine ⟨_, _, rfl, _, _, rfl, rfl, ?_⟩
    refine ⟨_, rfl, _, rfl, v, _, m, rfl, hv, _, rfl, ite2 (fun e => ?_) (fun e => ?_)⟩
    · refine boom ?_ _ s2
      rw [look, show letterOf m (ds.getD i .none) = false by simpa using e, Bool.false_and]
    have e' : letterOf m (ds.getD i .none) = true := by simpa using e
    obtain ⟨l, hl, _⟩ := letterOf_inv e'
    rw [hl] at hv
    obtain ⟨q, ws, rfl, hq, hw⟩ := Dq.tup_inv hv
    have hv0 := hv
    cases hw with | @cons va _ _ _ qa r1 =>
    cases r1 with | @cons vb _ _ _ qb r2 =>
    cases r2 with | @cons vc _ _ _ qc r3 =>
    cases r3
    obtain rfl := Dq.int_inv qa
    obtain rfl := Dq.int_inv qb
    obtain rfl := Dq.int_inv qc
    have bl : beatOf (ds.getD i .none) = l.2.2 := by rw [hl]; rfl
    have up : ∀ {b : Bool}, (decide (0 < i) && decide (beatOf (ds.getD i .none) < beatOf (ds.getD (i - 1) .none))) = b → ((ds.take i).any fun z => PyData.eqv z (ds.getD i .none)) = false → okAt m ds i = !b := fun h1 h2 => by
      rw [look, e', h1, h2]
      simp
    refine ⟨fun σ' H' => σ' = [some (.int m), some (.ref a), some (.int (i : Nat)), some (.ref q)] ∧ H' = upd H1 p (HO.tup [V.int (i : Nat), V.ref q]) ∧ (decide (0 < i) && decide (beatOf (ds.getD i .none) < beatOf (ds.getD (i - 1) .none))) = false, ?_, ?_⟩
    rotate_left
    · rintro σ' H' ⟨rfl, rfl, low⟩
      obtain ⟨ls, hls⟩ : ∃ ls : List (Int × Int × Int), ds.take i = ls.map mkL := letters_inv fun d hd => by
        obtain ⟨k, hk⟩ := List.mem_iff_getElem?.mp hd
        have hk1 : k < i := by
          have z := (List.getElem?_eq_some_iff.mp hk).1
          rw [List.length_take] at z
          omega
        rw [List.getElem?_take_of_lt hk1, getD_at (by omega : k < ds.length)] at hk
        obtain rfl := Option.some.inj hk
        exact okAt_letter (hok k hk1)
      have cut : cutV us none (some ((i : Nat) : Int)) = us.take i := by
        unfold cutV
        rw [HT.sIx_none, HT.sIx_nat, List.drop_zero, Nat.sub_zero, Nat.min_eq_left (by omega)]
      have any_ : ∀ b, ((ds.take i).any fun z => PyData.eqv z (ds.getD i .none)) = b → ((ls.map mkL).any fun z => PyData.eqv z (mkL l)) = b := fun b h => by
        rw [← hls, ← hl]
        exact h
      refine ⟨_, rfl, _, rfl, _, rfl, _, rfl, a, us, rfl, st_of ha2, ?_, fun p2 n2 => ?_⟩
      · rw [HT.sIx_none, HT.sIx_nat]
        omega
      rw [cut]
      have s3 : Same (upd H1 p (HO.tup [V.int (i : Nat), V.ref q])) (upd (upd H1 p (HO.tup [V.int (i : Nat), V.ref q])) p2 (HO.tup (us.take i))) := same_new n2
      have t1 : Dp K (upd (upd H1 p (HO.tup [V.int (i : Nat), V.ref q])) p2 (HO.tup (us.take i))) (V.ref q) (mkL l) := dq_dp _ _ (mkL_plain l) (Dq.same s3 _ _ hv0)
      have t2 : Dp K (upd (upd H1 p (HO.tup [V.int (i : Nat), V.ref q])) p2 (HO.tup (us.take i))) (V.ref p2) (.tuple (ls.map mkL)) := dq_dp _ _ (mkLs_plain ls) (by
        rw [← hls]
        exact .tup upd_same (DqAll.same (s2.trans s3) _ _ (DqAll.take i hr')))
      refine ⟨_, _, t1, t2, mkL_shaped l, mkLs_shaped ls, _, rfl, ite2 (fun e3 => ?_) (fun e3 => ?_)⟩
      · refine boom ?_ _ (s2.trans s3)
        rw [look, e', low]
        have z : ((ds.take i).any fun z => PyData.eqv z (ds.getD i .none)) = true := by
          rw [hls, hl]
          simpa using e3
        rw [z]
        rfl
      · have z : ((ds.take i).any fun z => PyData.eqv z (ds.getD i .none)) = false := by
          rw [hls, hl]
          simpa using e3
        refine ⟨s2.trans s3, ⟨_, _, rfl⟩, fun j hj => ?_⟩
        by_cases ej : j = i
        · rw [ej]
          exact up low z
        · exact hok j (by omega)
    refine ⟨_, rfl, _, _, rfl, rfl, _, rfl, ite2 (fun e1 => ?_) (fun e1 => ?_)⟩
    · have i0 : 0 < i := by
        have z := of_decide_eq_true e1
        omega
      obtain ⟨l', hl', _⟩ := letterOf_inv (okAt_letter (hok (i - 1) (by omega)))
      have hj : i - 1 < ds.length := by omega
      have ej : us[i - 1]? = some (us.getD (i - 1) .non) := by
        rw [List.getElem?_eq_getElem (by omega : i - 1 < us.length)]
        simp [List.getD, (by omega : i - 1 < us.length)]
      have hv' : Dq (upd H1 p (HO.tup [V.int (i : Nat), V.ref q])) (us.getD (i - 1) .non) (mkL l') := by
        rw [← hl']
        exact Dq.same s2 _ _ (DqAll.at hr' ej (getD_at hj))
      obtain ⟨q', ws', eq', hq', hw'⟩ := Dq.tup_inv hv'
      rw [eq'] at ej
      cases hw' with | @cons va' _ _ _ qa' r1' =>
      cases r1' with | @cons vb' _ _ _ qb' r2' =>
      cases r2' with | @cons vc' _ _ _ qc' r3' =>
      cases r3'
      obtain rfl := Dq.int_inv qc'
      have bl' : beatOf (ds.getD (i - 1) .none) = l'.2.2 := by rw [hl']; rfl
      have at' : atI us ((i : Int) - 1) = some (.ref q') := by
        have z : ((i : Int) - 1) = ((i - 1 : Nat) : Int) := by omega
        rw [z]
        exact atI_nat ej
      refine ⟨_, rfl, q, _, 2, _, rfl, rfl, st_of hq, rfl, _, rfl, _, rfl, _, _, rfl, rfl, a, us, _, _, rfl, rfl, st_of ha2, at', q', _, 2, _, rfl, rfl, st_of hq', rfl, _, _, rfl, rfl, _, rfl, ite2 (fun e2 => ?_) (fun e2 => ?_)⟩
      · refine boom ?_ _ s2
        have z : (decide (0 < i) && decide (beatOf (ds.getD i .none) < beatOf (ds.getD (i - 1) .none))) = true := by
          rw [decide_eq_true i0, bl, bl', Bool.true_and]
          exact e2
        rw [look, e', z]
        simp
      · refine ⟨rfl, rfl, ?_⟩
        rw [decide_eq_true i0, bl, bl', Bool.true_and]
        simpa using e2
    · refine ⟨rfl, rfl, ?_⟩
      have z : decide (0 < i) = false := by
        refine decide_eq_false fun z => e1 (decide_eq_true ?_)
        omega
      rw [z, Bool.false_and]
end
end K08

set_option maxHeartbeats 4000000
namespace K08
open PySem PySem.Spec PyProof.Rows L2 V1 V2
open Evl (pss_cut tCut sq_of st_of)
def firstBad (m : Int) (ds : List PyData) : Option Nat := (List.range ds.length).find? fun i => !okAt m ds i
theorem firstBad_none {m : Int} {ds : List PyData} (h : ∀ i, i < ds.length → okAt m ds i = true) : firstBad m ds = none := by
  unfold firstBad
  rw [List.find?_eq_none]
  intro i hi
  rw [h i (List.mem_range.mp hi)]
  decide
theorem firstBad_some {m : Int} {ds : List PyData} {i : Nat} (hi : i < ds.length) (h : okAt m ds i = false) (k : ∀ j, j < i → okAt m ds j = true) : firstBad m ds = some i := by
  unfold firstBad
  rw [List.find?_range_eq_some]
  exact ⟨by rw [h]; rfl, List.mem_range.mpr hi, fun j hj => by rw [k j hj]; rfl⟩
theorem ok_of_none {m : Int} {ds : List PyData} (h : firstBad m ds = none) : ∀ i, i < ds.length → okAt m ds i = true := fun i hi => by
  unfold firstBad at h
  rw [List.find?_eq_none] at h
  have z := h i (List.mem_range.mpr hi)
  simpa using z
/-- which part is wrong -/
def partOf (d1 d2 : PyData) : Option V :=
  if fromTo 2 8 d1 = true then
    if tupOf 0 60 d2 = true then
      match d1, d2 with
      | .int m, .tuple ds => (firstBad m ds).map fun i => V.int (i : Nat)
      | _, _ => none
    else some (.str "letters")
  else some (.str "many")
def mkS (K : PySem.W.Frag) (dx : Addr) (v1 v2 : V) : HO := .ins (He.ga K "Schedule") dx [("many", v1), ("letters", v2)]
def spInit (K : PySem.W.Frag) : Sp := fun vs H Q E => ∃ p dx v1 v2 d1 d2, vs = [.ref p, v1, v2] ∧ H p = some (.ins (He.ga K "Schedule") dx []) ∧ Dq H v1 d1 ∧ Dq H v2 d2 ∧
  (∀ x, partOf d1 d2 = some x → ∀ d H', H d = none → Same H H' → H' d = some (.xd [("part", x)]) → E (.ref (He.ga K "BadSchedule")) (some d) H') ∧
  (partOf d1 d2 = none → ∀ H', (∀ b o, b ≠ p → H b = some o → H' b = some o) → H' p = some (mkS K dx v1 v2) → Q .non H')
theorem scInit : FnScope ["self", "many", "letters"] ["self", "many", "letters"] (defScope s_Schedule__init__) := ⟨rfl, rfl, rfl, by decide +kernel, rfl, by decide +kernel, by decide +kernel⟩
section
variable {P : Program} {w : World} {K : PySem.W.Frag} {mg : Str → Option Value} {base : Heap}
theorem ok_init (T : Tx K mg) : HasC P w K mg base (L2.CX P w) 6 "Schedule" ["self", "many", "letters"] (spInit K) := by
  obtain ⟨fd, F⟩ := T.c.def_ 31 (d := d_Schedule__init__) rfl
  have Hf := ok_fromTo (P := P) (w := w) (base := base) T
  have Ht := ok_tupOf (P := P) (w := w) (base := base) T
  have Hc := ok_check (P := P) (w := w) (base := base) T
  obtain ⟨t1, g1⟩ := (T.int 12 rfl)
  obtain ⟨t2, g2⟩ := (T.int 13 rfl)
  obtain ⟨t3, g3⟩ := (T.int 14 rfl)
  have cS : Cls K (He.ga K "Schedule") := He.cls_ok (T.c.fact 64 rfl)
  have n1 : NoAttr K (He.ga K "Schedule") "many" := He.noat_ok (T.c.fact 66 rfl)
  have n2 : NoAttr K (He.ga K "Schedule") "letters" := He.noat_ok (T.c.fact 65 rfl)
  refine ⟨_, fd, He.mkr_ok (T.c.fact 67 rfl), F.ok scInit (fun vs H Q E h => ?_) (fun cdv A outer s H vs Q E hr h => ?_), FunD.bindsN F fun _ _ _ _ _ _ us hl => match us, hl with | [_, _, _], _ => rfl, (T.glo 19 rfl)⟩
  · obtain ⟨p, dx, v1, v2, d1, d2, rfl, _⟩ := h
    rfl
  · refine ⟨_, (pss_cons (ps_if (pt_not (pt_val (pe_has Hf (hr.mono (by decide)) pass0 (pa_cons (pv 1) (pa_cons (pe_glob (v := .int 2) (by rfl) g1 ⟨_, rfl⟩) (pa_cons (pe_glob (v := .int 8) (by rfl) g2 ⟨_, rfl⟩) pa_nil))))))
 (pss_one (ps_raise rfl (takes_of rfl rfl rfl rfl) (pmk_fld (fldBad T) (hr.mono (by decide)) (pa_cons pe_str pa_nil))))
 pss_nil)
 (pss_cons (ps_if (pt_not (pt_val (pe_has Ht (hr.mono (by decide)) pass0 (pa_cons (pv 2) (pa_cons pe_int (pa_cons (pe_glob (v := .int 60) (by rfl) g3 ⟨_, rfl⟩) pa_nil))))))
 (pss_one (ps_raise rfl (takes_of rfl rfl rfl rfl) (pmk_fld (fldBad T) (hr.mono (by decide)) (pa_cons pe_str pa_nil))))
 pss_nil)
 (pss_cons (ps_expr (pe_has Hc (hr.mono (by decide)) (passes_call (takes_of rfl rfl rfl rfl) (fun _ _ _ _ h => h)) (pa_cons (pv 1) (pa_cons (pv 2) pa_nil))))
 (pss_cons (ps_fld (pv 0) (pv 1) (by rfl))
 (pss_one (ps_fld (pv 0) (pv 2) (by rfl))))))), ?_⟩
    obtain ⟨p, dx, v1, v2, d1, d2, rfl, hp, hd1, hd2, hE, hQ⟩ := h
    refine ⟨_, rfl, v1, d1, 2, 8, rfl, hd1, _, rfl, ite2 (fun e => ?_) (fun e => ?_)⟩
    · have e' : fromTo 2 8 d1 = false := by simpa using e
      refine raise_go (v := .str "many") (fun Q q => q) fun d H' nd sm hd => hE (.str "many") ?_ d H' nd sm hd
      unfold partOf
      rw [if_neg (by rw [e']; decide)]
    have e1 : fromTo 2 8 d1 = true := by simpa using e
    refine ⟨_, rfl, v2, d2, 0, 60, rfl, hd2, _, rfl, ite2 (fun e => ?_) (fun e => ?_)⟩
    · have e' : tupOf 0 60 d2 = false := by simpa using e
      refine raise_go (v := .str "letters") (fun Q q => q) fun d H' nd sm hd => hE (.str "letters") ?_ d H' nd sm hd
      unfold partOf
      rw [if_pos e1, if_neg (by rw [e']; decide)]
    have e2 : tupOf 0 60 d2 = true := by simpa using e
    obtain ⟨m, rfl, m1, m2⟩ := fromTo_int e1
    obtain ⟨ds, rfl, l1, l2⟩ := tupOf_tup e2
    obtain rfl := Dq.int_inv hd1
    obtain ⟨a, us, rfl, ha, hr'⟩ := Dq.tup_inv hd2
    have part : partOf (.int m) (.tuple ds) = (firstBad m ds).map fun i => V.int (i : Nat) := by
      unfold partOf
      rw [if_pos e1, if_pos e2]
    refine ⟨_, rfl, _, rfl, m, a, us, ds, rfl, ha, hr', fun good H' sm => ?_, fun i hi bad ok d H' nd sm hd => ?_⟩
    · have hp' := sm _ _ hp
      refine ⟨_, rfl, _, rfl, p, _, dx, [], rfl, hp', cS, n1, (by show 0 < 1000; decide), _, rfl, _, rfl, p, _, dx, _, rfl, upd_same, cS, n2, (by show 1 < 1000; decide), ?_⟩
      refine hQ ?_ _ (fun b o ne hb => ?_) upd_same
      · rw [part, firstBad_none good]
        rfl
      · rw [upd_ne ne, upd_ne ne]
        exact sm _ _ hb
    · refine hE _ ?_ d H' nd sm hd
      rw [part, firstBad_some hi bad ok]
      rfl
/-- a Schedule is made, or not -/
theorem sched_go {H : Hp} {Q : VK} {E : XK} {v1 v2 : V} {d1 d2 : PyData} {K : PySem.W.Frag} {σ : L2.St} {ta : TA} (ht : ∀ Q : List V → Hp → Prop, Q [v1, v2] H → ta σ H Q) (h1 : Dq H v1 d1) (h2 : Dq H v2 d2)
    (bad : ∀ x, partOf d1 d2 = some x → ∀ d H', H d = none → Same H H' → H' d = some (.xd [("part", x)]) → E (.ref (He.ga K "BadSchedule")) (some d) H')
    (good : partOf d1 d2 = none → ∀ p dx H', Same H H' → H p = none → H' p = some (mkS K dx v1 v2) → Q (.ref p) H') : tMake (He.ga K "Schedule") (spInit K) [] E ta σ H Q := by
  refine ht _ fun p dx np nd ne => ?_
  have sm : Same H (upd (upd H dx (.own p)) p (.ins (He.ga K "Schedule") dx [])) := fun b o e => by
    rw [upd_ne (ne_of_none e np), upd_ne (ne_of_none e nd)]
    exact e
  refine ⟨p, dx, v1, v2, d1, d2, rfl, upd_same, Dq.same sm _ _ h1, Dq.same sm _ _ h2, fun x hx d H' nd' s' hd => bad x hx d H' (fresh_up sm nd') (sm.trans s') hd, fun hx H' st hp => ⟨rfl, good hx p dx H' (fun b o e => ?_) np hp⟩⟩
  exact st b o (ne_of_none e np) (sm _ _ e)
end
end K08

set_option maxHeartbeats 4000000
namespace K08
open PySem PySem.Spec PyProof.Rows L2 V1 V2
open Evl (pss_cut tCut sq_of st_of)
abbrev Lt3 : Type := Int × Int × Int
theorem eqv_mkL (a b : Lt3) : PyData.eqv (mkL a) (mkL b) = decide (a = b) := by
  obtain ⟨a1, a2, a3⟩ := a
  obtain ⟨b1, b2, b3⟩ := b
  simp only [mkL, PyData.eqv, PyData.eqvAll, Bool.and_true]
  rw [Bool.eq_iff_iff]
  simp
theorem eqvAll_mkL : ∀ (ls ms : List Lt3), PyData.eqvAll (ls.map mkL) (ms.map mkL) = decide (ls = ms)
  | [], [] => by simp [PyData.eqvAll]
  | [], _ :: _ => by simp [PyData.eqvAll]
  | _ :: _, [] => by simp [PyData.eqvAll]
  | l :: ls, m :: ms => by
    simp only [List.map_cons, PyData.eqvAll]
    rw [eqv_mkL, eqvAll_mkL ls ms, Bool.eq_iff_iff]
    simp
/-- letters that a schedule of m houses may have -/
structure LOk (m : Int) (l : Lt3) : Prop where
  a : 0 ≤ l.1 ∧ l.1 < m
  b : 0 ≤ l.2.1 ∧ l.2.1 < m
  ne : l.1 ≠ l.2.1
  t : 0 ≤ l.2.2 ∧ l.2.2 ≤ 999
structure GoodS (m : Int) (ls : List Lt3) : Prop where
  m2 : 2 ≤ m
  m8 : m ≤ 8
  len : ls.length ≤ 60
  ok : ∀ l ∈ ls, LOk m l
  up : ls.Pairwise fun x y => x.2.2 ≤ y.2.2
  nd : ls.Nodup
theorem fromTo_of {lo hi n : Int} (h1 : lo ≤ n) (h2 : n ≤ hi) : fromTo lo hi (.int n) = true := by
  show (decide (lo ≤ n) && decide (n ≤ hi)) = true
  rw [decide_eq_true h1, decide_eq_true h2]
  rfl
theorem letterOf_of {m : Int} {l : Lt3} (h : LOk m l) : letterOf m (mkL l) = true := by
  show (fromTo 0 (m - 1) (.int l.1) && (fromTo 0 (m - 1) (.int l.2.1) && (!(PyData.eqv (.int l.1) (.int l.2.1)) && fromTo 0 999 (.int l.2.2)))) = true
  have z : PyData.eqv (.int l.1) (.int l.2.1) = false := by
    simp only [PyData.eqv]
    simpa using h.ne
  rw [fromTo_of h.a.1 (by have := h.a.2; omega), fromTo_of h.b.1 (by have := h.b.2; omega), fromTo_of h.t.1 h.t.2, z]
  rfl
theorem okAt_good {m : Int} {ls : List Lt3} (h : GoodS m ls) {i : Nat} (hi : i < ls.length) : okAt m (ls.map mkL) i = true := by
  have g : ∀ j, j < ls.length → (ls.map mkL).getD j .none = mkL (ls.getD j (0, 0, 0)) := fun j hj => by simp [List.getD, hj]
  have ok := h.ok (ls.getD i (0, 0, 0)) (by simp [List.getD, hi])
  unfold okAt
  rw [g i hi, letterOf_of ok, Bool.true_and, Bool.and_eq_true]
  constructor
  · by_cases z : 0 < i
    · rw [g (i - 1) (by omega)]
      have le := List.pairwise_iff_getElem.mp h.up (i - 1) i (by omega) hi (by omega)
      have z2 : ¬ beatOf (mkL (ls.getD i (0, 0, 0))) < beatOf (mkL (ls.getD (i - 1) (0, 0, 0))) := by
        show ¬ (ls.getD i (0, 0, 0)).2.2 < (ls.getD (i - 1) (0, 0, 0)).2.2
        have e1 : ls.getD i (0, 0, 0) = ls[i] := by simp [List.getD, hi]
        have e2 : ls.getD (i - 1) (0, 0, 0) = ls[i - 1] := by simp [List.getD, (by omega : i - 1 < ls.length)]
        rw [e1, e2]
        omega
      rw [decide_eq_false z2, Bool.and_false]
      rfl
    · rw [decide_eq_false z]
      rfl
  · rw [← List.map_take, Bool.not_eq_true', List.any_eq_false]
    intro x hx
    obtain ⟨l, hl, rfl⟩ := List.mem_map.mp hx
    rw [eqv_mkL]
    have e1 : ls.getD i (0, 0, 0) = ls[i] := by simp [List.getD, hi]
    rw [e1]
    obtain ⟨j, hj⟩ := List.mem_iff_getElem?.mp hl
    have hji : j < i := by
      have z := (List.getElem?_eq_some_iff.mp hj).1
      rw [List.length_take] at z
      omega
    rw [List.getElem?_take_of_lt hji] at hj
    have ne : l ≠ ls[i] := fun e => by
      rw [e, ← List.getElem?_eq_getElem hi] at hj
      have := (List.getElem?_inj (by omega) h.nd).mp hj
      omega
    simpa using ne
theorem partOf_good {m : Int} {ls : List Lt3} (h : GoodS m ls) : partOf (.int m) (.tuple (ls.map mkL)) = none := by
  unfold partOf
  have z : tupOf 0 60 (.tuple (ls.map mkL)) = true := by
    have := h.len
    unfold tupOf
    simp only [List.length_map, Bool.and_eq_true, decide_eq_true_eq]
    omega
  rw [if_pos (fromTo_of h.m2 h.m8), if_pos z]
  simp only
  rw [firstBad_none fun i hi => okAt_good h (by rw [List.length_map] at hi; exact hi)]
  rfl
theorem good_part {d1 d2 : PyData} (h : partOf d1 d2 = none) : ∃ m ls, d1 = .int m ∧ d2 = .tuple (ls.map mkL) ∧ GoodS m ls := by
  unfold partOf at h
  by_cases e1 : fromTo 2 8 d1 = true
  · by_cases e2 : tupOf 0 60 d2 = true
    · rw [if_pos e1, if_pos e2] at h
      obtain ⟨m, rfl, m2, m8⟩ := fromTo_int e1
      obtain ⟨ds, rfl, l1, l2⟩ := tupOf_tup e2
      simp only [Option.map_eq_none_iff] at h
      have ok := ok_of_none h
      obtain ⟨ls, rfl⟩ : ∃ ls : List Lt3, ds = ls.map mkL := letters_inv fun d hd => by
        obtain ⟨k, hk⟩ := List.mem_iff_getElem?.mp hd
        have hk1 := (List.getElem?_eq_some_iff.mp hk).1
        rw [getD_at hk1] at hk
        obtain rfl := Option.some.inj hk
        exact okAt_letter (ok k hk1)
      rw [List.length_map] at l2 ok
      have g : ∀ j, j < ls.length → (ls.map mkL).getD j .none = mkL (ls.getD j (0, 0, 0)) := fun j hj => by simp [List.getD, hj]
      have gg : ∀ (j : Nat) (hj : j < ls.length), ls.getD j (0, 0, 0) = ls[j] := fun j hj => by simp [List.getD, hj]
      have step : ∀ i, 0 < i → (hi : i < ls.length) → (ls[i - 1]'(by omega)).2.2 ≤ ls[i].2.2 := fun i i0 hi => by
        have z := ok i hi
        unfold okAt at z
        rw [g i hi, g (i - 1) (by omega), gg i hi, gg (i - 1) (by omega), decide_eq_true i0] at z
        simp only [Bool.and_eq_true, Bool.true_and] at z
        have z1 := z.2.1
        have z2 : ¬ beatOf (mkL ls[i]) < beatOf (mkL (ls[i - 1]'(by omega))) := by simpa using z1
        have z3 : ¬ ls[i].2.2 < (ls[i - 1]'(by omega)).2.2 := z2
        omega
      refine ⟨m, ls, rfl, rfl, ⟨m2, m8, by omega, fun l hl => ?_, ?_, ?_⟩⟩
      · obtain ⟨k, hk, rfl⟩ := List.mem_iff_getElem.mp hl
        have z := okAt_letter (ok k hk)
        rw [g k hk, gg k hk] at z
        obtain ⟨l', e, a1, a2, b1, b2, ne, t1, t2⟩ := letterOf_inv z
        have e' : ls[k] = l' := by
          have q := eqv_mkL ls[k] l'
          rw [← e, eqv_mkL] at q
          simpa using q.symm
        rw [e']
        exact ⟨⟨a1, a2⟩, ⟨b1, b2⟩, ne, t1, t2⟩
      · rw [List.pairwise_iff_getElem]
        intro i j hi hj hij
        obtain ⟨d, rfl⟩ : ∃ d, j = i + d := ⟨j - i, by omega⟩
        clear hij
        induction d with
        | zero => exact Int.le_refl _
        | succ d ih => exact Int.le_trans (ih (by omega)) (step (i + (d + 1)) (by omega) hj)
      · rw [List.nodup_iff_pairwise_ne, List.pairwise_iff_getElem]
        intro i j hi hj hij e
        have z := ok j hj
        unfold okAt at z
        simp only [Bool.and_eq_true] at z
        have z2 := z.2.2
        rw [g j hj, gg j hj, ← List.map_take, Bool.not_eq_true', List.any_eq_false] at z2
        refine z2 (mkL ls[i]) (List.mem_map.mpr ⟨_, List.mem_iff_getElem?.mpr ⟨i, ?_⟩, rfl⟩) ?_
        · rw [List.getElem?_take_of_lt hij, List.getElem?_eq_getElem hi]
        · rw [eqv_mkL, e]
          simp
    · rw [if_pos e1, if_neg e2] at h
      cases h
  · rw [if_neg e1] at h
    cases h
end K08

set_option maxHeartbeats 4000000
namespace K08
open PySem PySem.Spec PyProof.Rows L2 V1 V2
open Evl (pss_cut tCut sq_of st_of)
section
variable {K : PySem.W.Frag} {mg : Str → Option Value}
theorem Tx.rai (T : Tx K mg) (i : Nat) {x : Str} (e : fa[i]? = some (.exc x)) {X : Cx} (hX : X.K = K := by rfl) : Raises X (.ref (He.ga K x)) := by
  have z := He.exc_ok (T.c.fact i e)
  subst hX
  exact raises_own z.2.2.1 z.2.2.2
end
/-- at p: a Schedule of these -/
def SchAt (K : PySem.W.Frag) (H : Hp) (p : Addr) (m : Int) (ls : List Lt3) : Prop := ∃ dx v, H p = some (mkS K dx (.int m) v) ∧ Dq H v (.tuple (ls.map mkL))
theorem SchAt.same {K : PySem.W.Frag} {H H' : Hp} {p : Addr} {m : Int} {ls : List Lt3} (h : SchAt K H p m ls) (s : Same H H') : SchAt K H' p m ls := by
  obtain ⟨dx, v, h1, h2⟩ := h
  exact ⟨dx, v, s _ _ h1, Dq.same s _ _ h2⟩
def spEq (K : PySem.W.Frag) : Sp := fun vs H Q _ => ∃ a m ls y, vs = [.ref a, y] ∧ SchAt K H a m ls ∧
  ((∃ d, Dq H y d ∧ Q (.bl false) H) ∨ ∃ b m' ls', y = .ref b ∧ SchAt K H b m' ls' ∧ Q (.bl (decide (m = m') && decide (ls = ls'))) H)
def turnsL (n : Nat) : List Lt3 := (List.range n).map fun i : Nat => ((i : Int) % 2, 1 - (i : Int) % 2, (i : Int))
def spTurns (K : PySem.W.Frag) : Sp := fun vs H Q _ => ∃ n : Nat, vs = [.int n] ∧ n ≤ 60 ∧ ∀ p H', Same H H' → H p = none → SchAt K H' p 2 (turnsL n) → Q (.ref p) H'
theorem scEq : FnScope ["self", "other"] ["self", "other"] (defScope s_Schedule__eq__) := ⟨rfl, rfl, rfl, by decide +kernel, rfl, by decide +kernel, by decide +kernel⟩
theorem scTurns : FnScope ["n", "beat"] ["n"] (defScope s_turns_line) := ⟨rfl, rfl, rfl, by decide +kernel, rfl, by decide +kernel, by decide +kernel⟩
section
variable {P : Program} {w : World} {K : PySem.W.Frag} {mg : Str → Option Value} {base : Heap}
theorem Tx.insC (T : Tx K mg) : C8.InsC K (He.ga K "Schedule") := (T.insK 0 rfl).ins (He.cls_ok (T.c.fact 64 rfl)) T.exs.2.2.2
theorem Tx.no1 (T : Tx K mg) : NoAttr K (He.ga K "Schedule") "many" := He.noat_ok (T.c.fact 66 rfl)
theorem Tx.no2 (T : Tx K mg) : NoAttr K (He.ga K "Schedule") "letters" := He.noat_ok (T.c.fact 65 rfl)
theorem ok_eq (T : Tx K mg) : ∃ fd, FnOk P w K mg base CX0 1 (He.ma K (He.ga K "Schedule") "__eq__") fd ["self", "other"] (spEq K) ∧ Binds K fd ["self", "other"] [] := by
  obtain ⟨fd, F⟩ := T.c.def_ 32 (d := d_Schedule__eq__) rfl
  refine ⟨fd, F.ok scEq (fun vs H Q E h => ?_) (fun cdv A outer s H vs Q E hr h => ?_), FunD.bindsN F fun _ _ _ _ _ _ us hl => match us, hl with | [_, _], _ => rfl⟩
  · obtain ⟨a, m, ls, y, rfl, _⟩ := h
    rfl
  · refine ⟨_, PSs.nox (pss_one (ps_ret (pe_and (pe_callB call_isi (by rfl) (T.free 48 rfl) (by decide +kernel) (pa_cons (pv 1) (pa_cons (pe_glob (v := .ref (He.ga K "Schedule")) (by rfl) (T.glo 19 rfl) rfl) pa_nil))) (pe_and (pe_cmpR op_eq (L2.pe_fld (pv 0) (by rfl)) (L2.pe_fld (pv 1) (by rfl)) (nomark _)) (pe_one (pe_cmpR (op_eqD hr.units) (L2.pe_fld (pv 0) (by rfl)) (L2.pe_fld (pv 1) (by rfl)) (nomark _))))))), ?_⟩
    obtain ⟨a, m, ls, y, rfl, ⟨dx, v, ha, hv⟩, h⟩ := h
    have cS := T.insC.cl
    rcases h with ⟨d, hd, hQ⟩ | ⟨b, m', ls', rfl, ⟨dy, v', hb, hv'⟩, hQ⟩
    · exact isiC_no (T.insK 0 rfl) (fun Q q => ⟨_, rfl, q⟩) hd ⟨_, rfl, iteF hQ⟩
    · refine isiC_yes T.insC (fun Q q => ⟨_, rfl, q⟩) hb ⟨_, rfl, iteT ?_⟩
      refine ⟨_, rfl, a, _, dx, _, _, rfl, ha, cS, T.no1, rfl, _, rfl, b, _, dy, _, _, rfl, hb, cS, T.no1, rfl, rfl, _, rfl, ite2 (fun e => ?_) (fun e => ?_)⟩
      · have e' : m = m' := by simpa [dec_int] using e
        refine ⟨_, rfl, a, _, dx, _, _, rfl, ha, cS, T.no2, rfl, _, rfl, b, _, dy, _, _, rfl, hb, cS, T.no2, rfl, _, _, dq_dp _ _ (mkLs_plain ls) hv, dq_dp _ _ (mkLs_plain ls') hv', mkLs_shaped ls, mkLs_shaped ls', ?_⟩
        rw [decide_eq_true e', Bool.true_and] at hQ
        have z : PyData.eqv (.tuple (ls.map mkL)) (.tuple (ls'.map mkL)) = decide (ls = ls') := by
          simp only [PyData.eqv]
          exact eqvAll_mkL ls ls'
        rw [z]
        exact hQ
      · have e' : ¬ m = m' := by simpa [dec_int] using e
        rw [decide_eq_false e', Bool.false_and] at hQ
        exact hQ
theorem good_turns {n : Nat} (h : n ≤ 60) : GoodS 2 (turnsL n) := by
  unfold turnsL
  refine ⟨by decide, by decide, by rw [List.length_map, List.length_range]; exact h, fun l hl => ?_, ?_, ?_⟩
  · obtain ⟨i, hi, rfl⟩ := List.mem_map.mp hl
    have z := List.mem_range.mp hi
    exact ⟨⟨by simp only; omega, by simp only; omega⟩, ⟨by simp only; omega, by simp only; omega⟩, by simp only; omega, ⟨by simp only; omega, by simp only; omega⟩⟩
  · rw [List.pairwise_map]
    exact List.Pairwise.imp (fun {a b} h => by simp only; omega) List.pairwise_lt_range
  · rw [List.nodup_iff_pairwise_ne, List.pairwise_map]
    exact List.Pairwise.imp (fun {a b} h e => by simp only [Prod.mk.injEq] at e; omega) List.pairwise_lt_range
def rMod2 : R2 := rI (fun _ j => 0 < j) fun i j => .int (i % j)
def rSub2 : R2 := rI0 fun i j => .int (i - j)
def teTurns : TE := tTup (tCons (tOp rMod2 (tVar 1) (tC (.int 2))) (tCons (tOp rSub2 (tC (.int 1)) (tOp rMod2 (tVar 1) (tC (.int 2)))) (tCons (tVar 1) tNil)))
/-- a new tuple of three ints beside the list at D -/
theorem mk3 {H : Hp} {D : Addr} {Q : VK} {a b c : Int} (hD : ∃ o, H D = some o) (k : ∀ v H', Same H H' → Dq (delH H' D) v (mkL (a, b, c)) → Q v H') : 3 ≤ sizeLine ∧ ∀ p, H p = none → Q (.ref p) (upd H p (.tup [.int a, .int b, .int c])) :=
  ⟨by show 3 ≤ sizeLine; decide, fun p np => k _ _ (same_new np) (.tup (by
    obtain ⟨o, e⟩ := hD
    rw [delH_ne (Ne.symm (ne_of_none e np))]
    exact upd_same) (.cons (.int _) (.cons (.int _) (.cons (.int _) .nil))))⟩
/-- a Schedule of good letters, the arguments being there -/
theorem sched_in {H : Hp} {Q : VK} {E : XK} {v2 : V} {m : Int} {ls : List Lt3} (g : GoodS m ls) (h2 : Dq H v2 (.tuple (ls.map mkL)))
    (k : ∀ p H', Same H H' → H p = none → SchAt K H' p m ls → Q (.ref p) H') :
    ∀ p dx, H p = none → H dx = none → dx ≠ p → spInit K [.ref p, .int m, v2] (upd (upd H dx (.own p)) p (.ins (He.ga K "Schedule") dx [])) (fun v H2 => v = .non ∧ Q (.ref p) H2) E :=
  sched_go (σ := []) (ta := fun _ H Q => Q [.int m, v2] H) (fun Q q => q) (.int m) h2 (fun x hx => by rw [partOf_good g] at hx; cases hx) fun _ p dx H' sm np e => k p H' sm np ⟨dx, v2, e, Dq.same sm _ _ h2⟩
theorem ok_turns (T : Tx K mg) : Has P w K mg base (L2.CX P w) 8 "turns_line" ["n"] (spTurns K) := by
  obtain ⟨fd, F⟩ := T.c.def_ 7 (d := d_turns_line) rfl
  have Hf := ok_fromTo (P := P) (w := w) (base := base) T
  have Hs := ok_init (P := P) (w := w) (base := base) T
  obtain ⟨t3, g3⟩ := (T.int 14 rfl)
  refine ⟨fd, F.ok scTurns (fun vs H Q E h => ?_) (fun cdv A outer s H vs Q E hr h => ?_), FunD.bindsN F fun _ _ _ _ _ _ us hl => match us, hl with | [_], _ => rfl, F.kp, (T.glo 20 rfl)⟩
  · obtain ⟨n, rfl, _⟩ := h
    rfl
  · refine ⟨_, (pss_cons (ps_if (pt_not (pt_val (pe_has Hf (hr.mono (by decide)) pass0 (pa_cons (pv 0) (pa_cons pe_int (pa_cons (pe_glob (v := .int 60) (by rfl) g3 ⟨_, rfl⟩) pa_nil))))))
 (pss_one (ps_raise rfl (takes_of rfl rfl rfl rfl) (pmk_mk0 PySem.F.excBase_ValueError (T.exq 60 rfl).1 (T.glo 8 rfl) (T.exq 60 rfl).2 (T.rai 60 rfl) (by rfl))))
 pss_nil)
 (pss_one (ps_ret (pe_hasC Hs (hr.mono (by decide)) (passes_call (takes_of rfl rfl rfl rfl) (fun _ _ _ _ h => h)) (pa_cons pe_int (pa_cons (pe_callTy call_tuple_of (by rfl) (T.free 55 rfl) (by decide +kernel) (pa_cons (pe_lc (own := [("beat", 1)]) (g := gName 1) (tt := tYes) (te := teTurns) (by rfl) scTurns.nd (pi_range1 (by rfl) (T.free 53 rfl) (pa_cons (pv 0) pa_nil))
 (blkOk_by (own := [("beat", 1)]) (N := ["n", "beat"]) (sc := defScope s_turns_line) (by decide +kernel)) (fun _ _ _ _ _ => pg_name (i := 1) scTurns.nd rfl (Or.inl rfl)) (fun _ _ _ _ _ => pts_nil) (fun _ _ _ _ _ => (pe_tup (pa_cons (pe_op op_mod (pv 1) pe_int) (pa_cons (pe_op op_sub pe_int (pe_op op_mod (pv 1) pe_int)) (pa_cons (pv 1) pa_nil)))))) pa_nil)) pa_nil)))))), ?_⟩
    obtain ⟨n, rfl, hn, hQ⟩ := h
    refine ⟨_, rfl, _, .int n, 0, 60, rfl, .int _, _, rfl, ite2 (fun e => absurd e (by rw [fromTo_of (by omega) (by omega)]; decide)) (fun _ => ?_)⟩
    refine ⟨_, rfl, n, rfl, by omega, by omega, fun D nD => ?_⟩
    rw [Int.toNat_natCast]
    refine lc_rows (K := K) (lo := 0) (n := n) (σ := [some (.int (n : Nat)), none]) (vs := [1]) (i0 := 1) (by omega) (fun i => mkL ((0 + (i : Int)) % 2, 1 - (0 + (i : Int)) % 2, 0 + (i : Int))) nD (fun x => rfl) (fun i hi H1 sm hD Q1 k => ?_) (fun us H1 eD sm q => ?_)
    · exact ⟨_, rfl, _, _, rfl, rfl, (by show (0 : Int) < 2; decide), _, rfl, _, _, rfl, rfl, (by show (0 : Int) < 2; decide), _, _, rfl, rfl, _, rfl, mk3 hD k⟩
    · refine ⟨D, us, rfl, .inl ⟨sq_of eD, fun l nl => ?_⟩⟩
      have e : (List.range n).map (fun i : Nat => mkL ((0 + (i : Int)) % 2, 1 - (0 + (i : Int)) % 2, 0 + (i : Int))) = (turnsL n).map mkL := by
        unfold turnsL
        rw [List.map_map]
        refine List.map_congr_left fun i _ => ?_
        simp [Function.comp]
      rw [e] at q
      refine sched_in (good_turns hn) (.tup upd_same (DqAll.same (same_new nl) _ _ q)) fun p H' s' np at_ => hQ p H' ((sm.trans (same_new nl)).trans s') (fresh_up (sm.trans (same_new nl)) np) at_
end
end K08

set_option maxHeartbeats 4000000
namespace K08
open PySem PySem.Spec PyProof.Rows L2 V1 V2
open Evl (pss_cut tCut sq_of st_of)
def LotOk (m : Int) : Int → List Int → Prop
  | _, [] => True
  | lo, n :: r => lo ≤ n ∧ n < m ∧ LotOk m (n + 1) r
def spLot : Sp := fun vs H Q _ => ∃ a m ns, vs = [.ref a, .int m] ∧ H a = some (.tup (ns.map V.int)) ∧ LotOk m 0 ns ∧ Q (.bl true) H
def keptI (ns : List Int) (i : Nat) : Bool := !(ns.contains (i : Int))
def keptL (ls : List Lt3) (ns : List Int) : List Lt3 := ((List.range ls.length).filter (keptI ns)).map fun i => ls.getD i (0, 0, 0)
def spWith (K : PySem.W.Frag) : Sp := fun vs H Q _ => ∃ p a m ls ns, vs = [.ref p, .ref a] ∧ SchAt K H p m ls ∧ GoodS m ls ∧ H a = some (.tup (ns.map V.int)) ∧ LotOk ls.length 0 ns ∧
  ∀ p' H', Same H H' → H p' = none → SchAt K H' p' m (keptL ls ns) → Q (.ref p') H'
theorem range_getD (ls : List Lt3) : (List.range ls.length).map (fun i => ls.getD i (0, 0, 0)) = ls := by
  refine List.ext_getElem (by simp) fun i h1 h2 => ?_
  simp [List.getD, h2]
theorem keptL_sub (ls : List Lt3) (ns : List Int) : (keptL ls ns).Sublist ls := by
  have z : (keptL ls ns).Sublist ((List.range ls.length).map fun i => ls.getD i (0, 0, 0)) := List.Sublist.map _ List.filter_sublist
  rw [range_getD] at z
  exact z
theorem GoodS.sub {m : Int} {ls ms : List Lt3} (h : GoodS m ls) (s : ms.Sublist ls) : GoodS m ms := ⟨h.m2, h.m8, Nat.le_trans s.length_le h.len, fun l hl => h.ok l (s.subset hl), h.up.sublist s, h.nd.sublist s⟩
theorem scLot : FnScope ["thing", "many", "least", "number"] ["thing", "many"] (defScope s_is_lot) := ⟨rfl, rfl, rfl, by decide +kernel, rfl, by decide +kernel, by decide +kernel⟩
theorem scWith : FnScope ["schedule", "letters", "kept", "at", "letter"] ["schedule", "letters"] (defScope s_without) := ⟨rfl, rfl, rfl, by decide +kernel, rfl, by decide +kernel, by decide +kernel⟩
theorem dq_ints {H : Hp} : ∀ ns : List Int, DqAll H (ns.map V.int) (ns.map PyData.int)
  | [] => .nil
  | n :: ns => .cons (.int n) (dq_ints ns)
theorem inV_ints {ns : List Int} {i : Int} : inV (.int i) (ns.map V.int) = ns.contains i := by
  unfold inV
  rw [List.any_map, Bool.eq_iff_iff, List.any_eq_true, List.contains_iff_mem]
  constructor
  · rintro ⟨x, hx, e⟩
    have z : x = i := by simpa [Function.comp, eqV] using e
    rw [← z]
    exact hx
  · intro h
    exact ⟨i, h, by simp [Function.comp, eqV]⟩
section
variable {P : Program} {w : World} {K : PySem.W.Frag} {mg : Str → Option Value} {base : Heap}
theorem ok_lot (T : Tx K mg) : Has P w K mg base CX0 3 "is_lot" ["thing", "many"] spLot := by
  obtain ⟨fd, F⟩ := T.c.def_ 4 (d := d_is_lot) rfl
  have Hf := ok_fromTo (P := P) (w := w) (base := base) T
  refine ⟨fd, F.ok scLot (fun vs H Q E h => ?_) (fun cdv A outer s H vs Q E hr h => ?_), FunD.bindsN F fun _ _ _ _ _ _ us hl => match us, hl with | [_, _], _ => rfl, F.kp, (T.glo 4 rfl)⟩
  · obtain ⟨a, m, ns, rfl, _⟩ := h
    rfl
  · refine ⟨_, PSs.nox (pss_cons (ps_if (pt_not (pt_val (pe_callB call_isi (by rfl) (T.free 48 rfl) (by decide +kernel) (pa_cons (pv 0) (pa_cons (pe_bltn (v := .ty "tuple") (by rfl) (T.free 55 rfl) (by decide +kernel) rfl) pa_nil)))))
 (pss_one (ps_ret pe_bl))
 pss_nil)
 (pss_cons (ps_set (i := 2) scLot.nd rfl (Or.inl rfl) pe_int)
 (pss_cons (ps_for PassesOwn.never rfl (pi_tup (pv 0)) (pg_name (i := 3) scLot.nd rfl (Or.inl rfl))
 (pss_cons (ps_if (pt_not (pt_val (pe_has Hf (hr.mono (by decide)) pass0 (pa_cons (pv 3) (pa_cons (pv 2) (pa_cons (pe_op op_sub (pv 1) pe_int) pa_nil))))))
 (pss_one (ps_ret pe_bl))
 pss_nil)
 (pss_one (ps_set (i := 2) scLot.nd rfl (Or.inl rfl) (pe_op op_add (pv 3) pe_int)))))
 (pss_one (ps_ret pe_bl))))), ?_⟩
    obtain ⟨a, m, ns, rfl, ha, hl, hQ⟩ := h
    refine isi_go (d := .tuple (ns.map PyData.int)) (kit_tup _) (fun Q q => ⟨_, rfl, q⟩) (.tup ha (dq_ints ns)) ⟨_, rfl, iteF ?_⟩
    refine ⟨_, rfl, a, rfl, ⟨_, st_of ha⟩, for_it walk_tup (fun i σ H' => H' = H ∧ ∃ lo x, σ = [some (.ref a), some (.int m), some (.int lo), x] ∧ LotOk m lo (ns.drop i)) ⟨rfl, _, _, rfl, by rw [List.drop_zero]; exact hl⟩ (fun i σ H' _ p => by rw [p.1]; exact st_of ha) ?_ (fun σ H' p => ?_)⟩
    · rintro i x σ H1 H2 hi ⟨rfl, lo, y, rfl, hlo⟩ ⟨rfl, hx⟩
      rw [List.length_map] at hi
      rw [List.getElem?_map, List.getElem?_eq_getElem hi] at hx
      obtain rfl := Option.some.inj hx
      rw [List.drop_eq_getElem_cons hi] at hlo
      obtain ⟨l1, l2, l3⟩ := hlo
      refine ⟨_, rfl, _, rfl, _, rfl, _, _, rfl, rfl, _, .int _, _, _, rfl, .int _, _, rfl, ite2 (fun e => absurd e (by rw [fromTo_of l1 (by omega)]; decide)) (fun _ => ?_)⟩
      exact ⟨_, rfl, _, _, rfl, rfl, rfl, _, _, rfl, l3⟩
    · obtain ⟨rfl, _⟩ := p
      exact hQ
theorem ok_without (T : Tx K mg) : Has P w K mg base (L2.CX P w) 8 "without" ["schedule", "letters"] (spWith K) := by
  obtain ⟨fd, F⟩ := T.c.def_ 12 (d := d_without) rfl
  have Hl := ok_lot (P := P) (w := w) (base := base) T
  have Hs := ok_init (P := P) (w := w) (base := base) T
  refine ⟨fd, F.ok scWith (fun vs H Q E h => ?_) (fun cdv A outer s H vs Q E hr h => ?_), FunD.bindsN F fun _ _ _ _ _ _ us hl => match us, hl with | [_, _], _ => rfl, F.kp, (T.glo 25 rfl)⟩
  · obtain ⟨p, a, m, ls, ns, rfl, _⟩ := h
    rfl
  · refine ⟨_, (pss_cons (ps_if (pt_not (pt_val (pe_has Hl (hr.mono (by decide)) pass0 (pa_cons (pv 1) (pa_cons (pe_callB call_len (by rfl) (T.free 49 rfl) PySem.boot_len (pa_cons (L2.pe_fld (pv 0) (by rfl)) pa_nil)) pa_nil)))))
 (pss_one (ps_raise rfl (takes_of rfl rfl rfl rfl) (pmk_mk0 PySem.F.excBase_ValueError (T.exq 62 rfl).1 (T.glo 10 rfl) (T.exq 62 rfl).2 (T.rai 62 rfl) (by rfl))))
 pss_nil)
 (pss_cons (ps_setLc (i := 2) (own := [("at", 3), ("letter", 4)]) (g := gTup K 2 (gCons (gName 3) (gCons (gName 4) gNil))) (tt := tTest (tOp (rIn K true) (tVar 3) (tVar 1))) (te := tVar 4) (by rfl) scWith.nd rfl rfl (by rfl) (pi_enumT (by rfl) (T.free 46 rfl) (pa_cons (L2.pe_fld (pv 0) (by rfl)) pa_nil))
 (blkOk_by (own := [("at", 3), ("letter", 4)]) (N := ["schedule", "letters", "kept", "at", "letter"]) (sc := defScope s_without) (by decide +kernel)) (fun _ _ _ _ _ => pg_tup (by rfl) (pgs_cons (pg_name (i := 3) scWith.nd rfl (Or.inl rfl)) (pgs_cons (pg_name (i := 4) scWith.nd rfl (Or.inl rfl)) pgs_nil))) (fun _ _ _ _ _ => pts_one (pt_cmpR op_notIn_seq (pv 3) (pv 1) (by rfl))) (fun _ _ _ _ _ => (pv 4)))
 (pss_one (ps_ret (pe_hasC Hs (hr.mono (by decide)) (passes_call (takes_of rfl rfl rfl rfl) (fun _ _ _ _ h => h)) (pa_cons (L2.pe_fld (pv 0) (by rfl)) (pa_cons (pe_callTy call_tuple_of (by rfl) (T.free 55 rfl) (by decide +kernel) (pa_cons (pv 2) pa_nil)) pa_nil))))))), ?_⟩
    obtain ⟨p, a, m, ls, ns, rfl, ⟨dx, v, hp, hv⟩, g, ha, hl, hQ⟩ := h
    have cS := T.insC.cl
    obtain ⟨q, us, rfl, hq, hr'⟩ := Dq.tup_inv hv
    have len : us.length = ls.length := by rw [dqAll_len hr', List.length_map]
    refine ⟨_, rfl, _, rfl, p, _, dx, _, _, rfl, hp, cS, T.no2, rfl, _, _, rfl, .inr ⟨us, st_of hq, rfl⟩, a, _, ns, rfl, ha, by rw [len]; exact hl, _, rfl, iteF ?_⟩
    refine ⟨_, rfl, p, _, dx, _, _, rfl, hp, cS, T.no2, rfl, q, us, rfl, st_of hq, fun D nD => ?_⟩
    have nDa : a ≠ D := fun z => by
      rw [z, nD] at ha
      cases ha
    refine lc_gen (σ := [some (.ref p), some (.ref a), none, none, none]) (vs := [3, 4]) walk_enumT nD (fun i acc H' => Same H H' ∧ DqAll H' acc ((((List.range i).filter (keptI ns)).map fun i => ls.getD i (0, 0, 0)).map mkL)) ⟨Same.refl _, .nil⟩ (fun i acc H' _ z => st_of (same_delH _ _ (z.1 _ _ hq))) ?_ ?_
    · rintro i acc x H1 H2 hi l e ⟨sm, qa⟩ ⟨t, z1, y, rfl, nt, rfl, e1, e2⟩
      obtain rfl := Option.some.inj e1
      have hi' : i < ls.length := by omega
      have s2 : Same H1 (upd H1 t (.tup [.int (i : Nat), y])) := same_new nt
      have e' := s2 _ _ e
      have dy : Dq H y (mkL (ls.getD i (0, 0, 0))) := DqAll.at hr' e2 (by
        rw [List.getElem?_map, List.getElem?_eq_getElem hi']
        simp [List.getD, hi'])
      have sm' : Same H (delH (upd H1 t (.tup [.int (i : Nat), y])) D) := fun b o ob => same_del s2 _ _ (sm _ _ ob)
      refine ⟨t, _, rfl, st_of upd_same, rfl, _, _, rfl, _, _, rfl, rfl, rfl, ?_⟩
      refine ⟨_, rfl, _, rfl, a, _, rfl, .inr (st_of (same_delH _ _ (sm' _ _ ha))), rfl, by simp [flatV], _, rfl, ?_⟩
      have kp : (if true = true then !inV (.int ((i : Nat) : Int)) (ns.map V.int) else inV (.int ((i : Nat) : Int)) (ns.map V.int)) = keptI ns i := by
        rw [if_pos rfl, inV_ints]
        rfl
      rw [kp]
      refine ite2 (fun c => ?_) (fun c => ?_)
      · refine ⟨_, rfl, lc_put l (by have := g.len; omega) e' ⟨sm', ?_⟩⟩
        rw [List.range_succ, List.filter_append, List.map_append, List.map_append]
        refine DqAll.app (DqAll.same (same_del s2) _ _ qa) ?_
        have z : [i].filter (keptI ns) = [i] := by simp [c]
        rw [z]
        exact .cons (Dq.same sm' _ _ dy) .nil
      · refine lc_skip l e' ⟨sm', ?_⟩
        rw [List.range_succ, List.filter_append, List.map_append, List.map_append]
        have z : [i].filter (keptI ns) = [] := by simp [c]
        rw [z]
        simpa using DqAll.same (same_del s2) _ _ qa
    · rintro acc H1 l e ⟨sm, qa⟩
      have s1 : Same H H1 := fun b o ob => same_delH _ _ (sm _ _ ob)
      rw [len] at qa
      refine ⟨_, rfl, p, _, dx, _, _, rfl, s1 _ _ hp, cS, T.no1, rfl, _, rfl, D, acc, rfl, .inl ⟨sq_of e, fun l nl => ?_⟩⟩
      refine sched_in (g.sub (keptL_sub ls ns)) (.tup upd_same (DqAll.same (same_new nl) _ _ (DqAll.same same_delH _ _ qa))) fun p' H' s' np at_ => hQ p' H' ((s1.trans (same_new nl)).trans s') (fresh_up (s1.trans (same_new nl)) np) at_
end
end K08

set_option maxHeartbeats 4000000
namespace K08
open PySem PySem.Spec PyProof.Rows L2 V1 V2
open Evl (pss_cut tCut sq_of st_of)
def mkT (t : Int × Int) : PyData := .tuple [.int t.1, .int t.2]
structure GoodT (m : Int) (ts : List (Int × Int)) : Prop where
  m2 : 2 ≤ m
  m8 : m ≤ 8
  ok : ∀ t ∈ ts, 0 ≤ t.1 ∧ t.1 < t.2 ∧ t.2 < m
  up : ts.Pairwise fun x y => x.1 < y.1 ∨ x.1 = y.1 ∧ x.2 < y.2
def spTie : Sp := fun vs H Q _ => ∃ v m t, vs = [v, .int m] ∧ Dq H v (mkT t) ∧ (0 ≤ t.1 ∧ t.1 < t.2 ∧ t.2 < m) ∧ Q (.bl true) H
def spNet : Sp := fun vs H Q _ => ∃ a m ts, vs = [.int m, .ref a] ∧ Dq H (.ref a) (.tuple (ts.map mkT)) ∧ GoodT m ts ∧ ∀ H', Same H H' → Q (.bl true) H'
def netL (ts : List (Int × Int)) (n : Nat) : List Lt3 := (List.range n).flatMap fun b : Nat => ts.flatMap fun t => [(t.1, t.2, (b : Int)), (t.2, t.1, (b : Int))]
def spSched (K : PySem.W.Frag) : Sp := fun vs H Q E => ∃ a m ts n, vs = [.int m, .ref a, .int ((n : Nat) : Int)] ∧ Dq H (.ref a) (.tuple (ts.map mkT)) ∧ GoodT m ts ∧ n ≤ 60 ∧
  (60 < 2 * ts.length * n → ∀ d H', H d = none → Same H H' → H' d = some (.xd [("most", .int 60)]) → E (.ref (He.ga K "TooMany")) (some d) H') ∧
  (2 * ts.length * n ≤ 60 → ∀ p H', Same H H' → H p = none → SchAt K H' p m (netL ts n) → Q (.ref p) H')
def spBoth (K : PySem.W.Frag) : Sp := fun vs H Q _ => ∃ n : Nat, vs = [.int n] ∧ n ≤ 30 ∧ ∀ p H', Same H H' → H p = none → SchAt K H' p 2 (netL [(0, 1)] n) → Q (.ref p) H'
theorem scTie : FnScope ["thing", "many"] ["thing", "many"] (defScope s_is_tie) := ⟨rfl, rfl, rfl, by decide +kernel, rfl, by decide +kernel, by decide +kernel⟩
theorem scNet : FnScope ["many", "ties", "at", "tie"] ["many", "ties"] (defScope s_is_net) := ⟨rfl, rfl, rfl, by decide +kernel, rfl, by decide +kernel, by decide +kernel⟩
theorem scSched : FnScope ["many", "ties", "beats", "letters", "beat", "one", "other"] ["many", "ties", "beats"] (defScope s_net_schedule) := ⟨rfl, rfl, rfl, by decide +kernel, rfl, by decide +kernel, by decide +kernel⟩
theorem scBoth : FnScope ["n"] ["n"] (defScope s_both_line) := ⟨rfl, rfl, rfl, by decide +kernel, rfl, by decide +kernel, by decide +kernel⟩
theorem netL_len (ts : List (Int × Int)) : ∀ n, (netL ts n).length = 2 * ts.length * n
  | 0 => by simp [netL]
  | n + 1 => by
    have ih := netL_len ts n
    have z : ∀ (b : Int) (us : List (Int × Int)), (us.flatMap fun t => [((t.1, t.2, b) : Lt3), (t.2, t.1, b)]).length = 2 * us.length := fun b us => by
      induction us with
      | nil => rfl
      | cons u us ih => 
        rw [List.flatMap_cons, List.length_append, ih, List.length_cons]
        simp
        omega
    unfold netL at ih ⊢
    rw [List.range_succ, List.flatMap_append, List.length_append, ih, List.flatMap_cons, List.flatMap_nil, List.append_nil, z, Nat.mul_add]
    omega
theorem good_net {m : Int} {ts : List (Int × Int)} {n : Nat} (h : GoodT m ts) (hn : n ≤ 60) (hl : 2 * ts.length * n ≤ 60) : GoodS m (netL ts n) := by
  refine ⟨h.m2, h.m8, by rw [netL_len]; exact hl, fun l hl => ?_, ?_, ?_⟩
  · unfold netL at hl
    obtain ⟨b, hb, hl⟩ := List.mem_flatMap.mp hl
    obtain ⟨t, ht, hl⟩ := List.mem_flatMap.mp hl
    have hb' := List.mem_range.mp hb
    obtain ⟨o1, o2, o3⟩ := h.ok t ht
    simp only [List.mem_cons, List.not_mem_nil, or_false] at hl
    rcases hl with rfl | rfl
    · exact ⟨⟨o1, by simp only; omega⟩, ⟨by simp only; omega, o3⟩, by simp only; omega, ⟨by simp only; omega, by simp only; omega⟩⟩
    · exact ⟨⟨by simp only; omega, o3⟩, ⟨o1, by simp only; omega⟩, by simp only; omega, ⟨by simp only; omega, by simp only; omega⟩⟩
  · unfold netL
    rw [List.pairwise_flatMap]
    refine ⟨fun b _ => ?_, ?_⟩
    · refine List.Pairwise.imp_of_mem (R := fun _ _ => True) (fun {x y} hx hy _ => ?_) (List.pairwise_of_forall fun _ _ => True.intro)
      have e : ∀ z ∈ ts.flatMap (fun t => [((t.1, t.2, (b : Int)) : Lt3), (t.2, t.1, (b : Int))]), z.2.2 = (b : Int) := fun z hz => by
        obtain ⟨t, ht, hz⟩ := List.mem_flatMap.mp hz
        simp only [List.mem_cons, List.not_mem_nil, or_false] at hz
        rcases hz with rfl | rfl <;> rfl
      rw [e x hx, e y hy]
      exact Int.le_refl _
    · refine List.Pairwise.imp (fun {b c} hbc x hx y hy => ?_) List.pairwise_lt_range
      obtain ⟨t, ht, hx⟩ := List.mem_flatMap.mp hx
      obtain ⟨u, hu, hy⟩ := List.mem_flatMap.mp hy
      simp only [List.mem_cons, List.not_mem_nil, or_false] at hx hy
      rcases hx with rfl | rfl <;> rcases hy with rfl | rfl <;> simp only <;> omega
  · unfold netL
    rw [List.nodup_iff_pairwise_ne, List.pairwise_flatMap]
    refine ⟨fun b _ => ?_, ?_⟩
    · rw [List.pairwise_flatMap]
      refine ⟨fun t ht => ?_, ?_⟩
      · obtain ⟨o1, o2, o3⟩ := h.ok t ht
        refine .cons (fun x hx => ?_) (.cons (fun x hx => absurd hx List.not_mem_nil) .nil)
        simp only [List.mem_cons, List.not_mem_nil, or_false] at hx
        rw [hx]
        intro e
        simp only [Prod.mk.injEq] at e
        omega
      · refine List.Pairwise.imp_of_mem (fun {t u} ht hu htu x hx y hy e => ?_) h.up
        obtain ⟨o1, o2, o3⟩ := h.ok t ht
        obtain ⟨q1, q2, q3⟩ := h.ok u hu
        simp only [List.mem_cons, List.not_mem_nil, or_false] at hx hy
        rcases hx with rfl | rfl <;> rcases hy with rfl | rfl <;> simp only [Prod.mk.injEq] at e <;> omega
    · refine List.Pairwise.imp (fun {b c} hbc x hx y hy e => ?_) List.pairwise_lt_range
      obtain ⟨t, ht, hx⟩ := List.mem_flatMap.mp hx
      obtain ⟨u, hu, hy⟩ := List.mem_flatMap.mp hy
      simp only [List.mem_cons, List.not_mem_nil, or_false] at hx hy
      rcases hx with rfl | rfl <;> rcases hy with rfl | rfl <;> simp only [Prod.mk.injEq] at e <;> omega
end K08

set_option maxHeartbeats 4000000
namespace K08
open PySem PySem.Spec PyProof.Rows L2 V1 V2
open Evl (pss_cut tCut sq_of st_of)
theorem tie_inv {H : Hp} {v : V} {t : Int × Int} (h : Dq H v (mkT t)) : ∃ a, v = .ref a ∧ H a = some (.tup [.int t.1, .int t.2]) := by
  obtain ⟨a, us, rfl, ha, hr⟩ := Dq.tup_inv h
  cases hr with | @cons va _ _ _ qa r1 =>
  cases r1 with | @cons vb _ _ _ qb r2 =>
  cases r2
  obtain rfl := Dq.int_inv qa
  obtain rfl := Dq.int_inv qb
  exact ⟨a, rfl, ha⟩
section
variable {P : Program} {w : World} {K : PySem.W.Frag} {mg : Str → Option Value} {base : Heap}
theorem ok_tie (T : Tx K mg) : Has P w K mg base CX0 4 "is_tie" ["thing", "many"] spTie := by
  obtain ⟨fd, F⟩ := T.c.def_ 9 (d := d_is_tie) rfl
  have Hh := ok_house (P := P) (w := w) (base := base) T
  have Ht := ok_tupOf (P := P) (w := w) (base := base) T
  refine ⟨fd, F.ok scTie (fun vs H Q E h => ?_) (fun cdv A outer s H vs Q E hr h => ?_), FunD.bindsN F fun _ _ _ _ _ _ us hl => match us, hl with | [_, _], _ => rfl, F.kp, (T.glo 22 rfl)⟩
  · obtain ⟨v, m, t, rfl, _⟩ := h
    rfl
  · refine ⟨_, PSs.nox (pss_one (ps_ret (pe_and (pe_has Ht (hr.mono (by decide)) pass0 (pa_cons (pv 0) (pa_cons pe_int (pa_cons pe_int pa_nil)))) (pe_and (pe_has Hh (hr.mono (by decide)) pass0 (pa_cons (pe_ix ix_tup (pv 0) pe_int (fun _ _ => rfl)) (pa_cons (pv 1) pa_nil))) (pe_and (pe_has Hh (hr.mono (by decide)) pass0 (pa_cons (pe_ix ix_tup (pv 0) pe_int (fun _ _ => rfl)) (pa_cons (pv 1) pa_nil))) (pe_one (pe_cmpR op_lt (pe_ix ix_tup (pv 0) pe_int (fun _ _ => rfl)) (pe_ix ix_tup (pv 0) pe_int (fun _ _ => rfl)) (nomark _)))))))), ?_⟩
    obtain ⟨v, m, t, rfl, hv, ⟨o1, o2, o3⟩, hQ⟩ := h
    obtain ⟨a, rfl, ha⟩ := tie_inv hv
    refine ⟨_, rfl, _, _, 2, 2, rfl, hv, true, rfl, iteT ?_⟩
    refine ⟨_, rfl, a, _, 0, _, rfl, rfl, st_of ha, rfl, _, rfl, _, _, m, rfl, .int t.1, true, by rw [fromTo_of o1 (by omega)], iteT ?_⟩
    refine ⟨_, rfl, a, _, 1, _, rfl, rfl, st_of ha, rfl, _, rfl, _, _, m, rfl, .int t.2, true, by rw [fromTo_of (by omega) (by omega)], iteT ?_⟩
    refine ⟨_, rfl, a, _, 0, _, rfl, rfl, st_of ha, rfl, _, rfl, a, _, 1, _, rfl, rfl, st_of ha, rfl, _, _, rfl, rfl, ?_⟩
    have z : decide (t.1 < t.2) = true := decide_eq_true o2
    simpa [z] using hQ
theorem ok_net (T : Tx K mg) : Has P w K mg base CX0 5 "is_net" ["many", "ties"] spNet := by
  obtain ⟨fd, F⟩ := T.c.def_ 10 (d := d_is_net) rfl
  have Hf := ok_fromTo (P := P) (w := w) (base := base) T
  have Ht := ok_tie (P := P) (w := w) (base := base) T
  obtain ⟨t1, g1⟩ := (T.int 12 rfl)
  obtain ⟨t2, g2⟩ := (T.int 13 rfl)
  refine ⟨fd, F.ok scNet (fun vs H Q E h => ?_) (fun cdv A outer s H vs Q E hr h => ?_), FunD.bindsN F fun _ _ _ _ _ _ us hl => match us, hl with | [_, _], _ => rfl, F.kp, (T.glo 23 rfl)⟩
  · obtain ⟨a, m, ts, rfl, _⟩ := h
    rfl
  · refine ⟨_, PSs.nox (pss_cons (ps_if (PW.pt (pw_or (pt_not (pt_val (pe_has Hf (hr.mono (by decide)) pass0 (pa_cons (pv 0) (pa_cons (pe_glob (v := .int 2) (by rfl) g1 ⟨_, rfl⟩) (pa_cons (pe_glob (v := .int 8) (by rfl) g2 ⟨_, rfl⟩) pa_nil)))))) (pw_or1 (pt_not (pt_val (pe_callB call_isi (by rfl) (T.free 48 rfl) (by decide +kernel) (pa_cons (pv 1) (pa_cons (pe_bltn (v := .ty "tuple") (by rfl) (T.free 55 rfl) (by decide +kernel) rfl) pa_nil))))))))
 (pss_one (ps_ret pe_bl))
 pss_nil)
 (pss_cons (ps_for PassesOwn.never rfl (pi_enumT (by rfl) (T.free 46 rfl) (pa_cons (pv 1) pa_nil)) (pg_tup (by rfl) (pgs_cons (pg_name (i := 2) scNet.nd rfl (Or.inl rfl)) (pgs_cons (pg_name (i := 3) scNet.nd rfl (Or.inl rfl)) pgs_nil)))
 (pss_cons (ps_if (pt_not (pt_val (pe_has Ht (hr.mono (by decide)) pass0 (pa_cons (pv 3) (pa_cons (pv 0) pa_nil)))))
 (pss_one (ps_ret pe_bl))
 pss_nil)
 (pss_one (ps_if (PW.pt (pw_and (pt_cmpR op_gt (pv 2) pe_int (nomark _)) (pw_and1 (pt_cmpR (op_leT hr.units0) (pv 3) (pe_ix ix_tup (pv 1) (pe_op op_sub (pv 2) pe_int) (fun _ _ => rfl)) (nomark _)))))
 (pss_one (ps_ret pe_bl))
 pss_nil))))
 (pss_one (ps_ret pe_bl)))), ?_⟩
    obtain ⟨a, m, ts, rfl, hv, g, hQ⟩ := h
    have hv0 := hv
    obtain ⟨a', us, ea, ha, hr'⟩ := Dq.tup_inv hv
    cases ea
    have len : us.length = ts.length := by rw [dqAll_len hr', List.length_map]
    refine ⟨_, rfl, _, .int m, 2, 8, rfl, .int m, true, by rw [fromTo_of g.m2 g.m8], iteF ?_⟩
    refine isi_go (d := .tuple (ts.map mkT)) (kit_tup _) (fun Q q => ⟨_, rfl, q⟩) hv0 ⟨_, rfl, iteF ?_⟩
    refine ⟨_, rfl, a, us, rfl, st_of ha, ?_⟩
    refine for_it walk_enumT (fun i σ H' => Same H H' ∧ ∃ o1 o2, σ = [some (.int m), some (.ref a), o1, o2]) ⟨Same.refl H, _, _, rfl⟩ (fun i σ H' _ p => st_of (p.1 _ _ ha)) ?_ (fun σ H' p => hQ H' p.1)
    rintro i x σ H1 H2 hi ⟨s1, ⟨o1, o2, rfl⟩⟩ ⟨p, z1, v, rfl, np, rfl, e1, e2⟩
    obtain rfl := Option.some.inj e1
    have hi' : i < ts.length := by omega
    have s2 : Same H (upd H1 p (.tup [.int (i : Nat), v])) := s1.trans (same_new np)
    have ha2 := s2 _ _ ha
    have hv : Dq (upd H1 p (.tup [.int (i : Nat), v])) v (mkT ts[i]) := Dq.same s2 _ _ (DqAll.at hr' e2 (by rw [List.getElem?_map, List.getElem?_eq_getElem hi']; rfl))
    refine ⟨p, _, rfl, st_of upd_same, rfl, _, _, rfl, _, _, rfl, rfl, ?_⟩
    refine ⟨_, rfl, _, rfl, v, m, ts[i], rfl, hv, g.ok _ (List.getElem_mem hi'), true, rfl, iteF ?_⟩
    obtain ⟨q, rfl, hq⟩ := tie_inv hv
    refine ⟨_, rfl, _, _, rfl, rfl, _, rfl, ite2 (fun e => ?_) (fun e => ?_)⟩
    · have i0 : 0 < i := by
        have z := of_decide_eq_true e
        omega
      have hj : i - 1 < ts.length := by omega
      have ej : us[i - 1]? = some us[i - 1] := List.getElem?_eq_getElem (by omega)
      have hv' : Dq (upd H1 p (.tup [.int (i : Nat), .ref q])) us[i - 1] (mkT ts[i - 1]) := Dq.same s2 _ _ (DqAll.at hr' ej (by rw [List.getElem?_map, List.getElem?_eq_getElem hj]; rfl))
      obtain ⟨q', eq', hq'⟩ := tie_inv hv'
      rw [eq'] at ej
      have at' : atI us ((i : Int) - 1) = some (.ref q') := by
        have z : ((i : Int) - 1) = ((i - 1 : Nat) : Int) := by omega
        rw [z]
        exact atI_nat ej
      have lt := List.pairwise_iff_getElem.mp g.up (i - 1) i hj hi' (by omega)
      refine ⟨_, rfl, _, rfl, _, rfl, _, _, rfl, rfl, a, us, _, _, rfl, rfl, st_of ha2, at', q, q', [ts[i].1, ts[i].2], [ts[i - 1].1, ts[i - 1].2], rfl, rfl, st_of hq, st_of hq', false, ?_, iteF ⟨s2, _, _, rfl⟩⟩
      have z : Ob.lexAt (fun j => decide ([ts[i].1, ts[i].2].getD j 0 = [ts[i - 1].1, ts[i - 1].2].getD j 0)) (fun j => decide ([ts[i].1, ts[i].2].getD j 0 ≤ [ts[i - 1].1, ts[i - 1].2].getD j 0)) (decide ([ts[i].1, ts[i].2].length ≤ [ts[i - 1].1, ts[i - 1].2].length)) 0 (min [ts[i].1, ts[i].2].length [ts[i - 1].1, ts[i - 1].2].length) = false := by
        show (if decide (ts[i].1 = ts[i - 1].1) = true then (if decide (ts[i].2 = ts[i - 1].2) = true then true else decide (ts[i].2 ≤ ts[i - 1].2)) else decide (ts[i].1 ≤ ts[i - 1].1)) = false
        by_cases c : ts[i].1 = ts[i - 1].1
        · rw [if_pos (decide_eq_true c), if_neg (by simp; omega)]
          exact decide_eq_false (by omega)
        · rw [if_neg (by simpa using c)]
          exact decide_eq_false (by omega)
      rw [z]
    · exact ⟨s2, _, _, rfl⟩
end
end K08

set_option maxHeartbeats 4000000
namespace K08
open PySem PySem.Spec PyProof.Rows L2 V1 V2
open Evl (pss_cut tCut sq_of st_of)
/-- the list at p, its items letters, and all else as in H0 -/
structure Rows (H0 : Hp) (p : Addr) (ls : List Lt3) (H : Hp) : Prop where
  sm : Same H0 (delH H p)
  at_ : ∃ acc, H p = some (.lst acc) ∧ DqAll (delH H p) acc (ls.map mkL)
theorem Rows.len {H : Hp} {p : Addr} {ls : List Lt3} {acc : List V} (h : DqAll (delH H p) acc (ls.map mkL)) : acc.length = ls.length := by rw [dqAll_len h, List.length_map]
theorem rows_app {H0 H : Hp} {p q : Addr} {ls : List Lt3} {l : Lt3} {acc : List V} (sm : Same H0 (delH H p)) (e : H p = some (.lst acc)) (h : DqAll (delH H p) acc (ls.map mkL)) (nq : H q = none) :
    Rows H0 p (ls ++ [l]) (upd (upd H q (.tup [.int l.1, .int l.2.1, .int l.2.2])) p (.lst (acc ++ [.ref q]))) := by
  have ne : q ≠ p := fun z => by
    rw [z, e] at nq
    cases nq
  have s2 : Same (delH H p) (delH (upd (upd H q (.tup [.int l.1, .int l.2.1, .int l.2.2])) p (.lst (acc ++ [.ref q]))) p) := by
    rw [delH_upd]
    exact same_del (same_new nq)
  refine ⟨sm.trans s2, _, upd_same, ?_⟩
  rw [List.map_append]
  refine DqAll.app (DqAll.same s2 _ _ h) (.cons (.tup ?_ (.cons (.int _) (.cons (.int _) (.cons (.int _) .nil)))) .nil)
  rw [delH_upd, delH_ne ne, upd_same]
section
variable {P : Program} {w : World} {K : PySem.W.Frag} {mg : Str → Option Value} {base : Heap}
theorem ok_sched (T : Tx K mg) : Has P w K mg base (L2.CX P w) 8 "net_schedule" ["many", "ties", "beats"] (spSched K) := by
  obtain ⟨fd, F⟩ := T.c.def_ 11 (d := d_net_schedule) rfl
  have Hf := ok_fromTo (P := P) (w := w) (base := base) T
  have Hn := ok_net (P := P) (w := w) (base := base) T
  have Hs := ok_init (P := P) (w := w) (base := base) T
  obtain ⟨t3, g3⟩ := (T.int 14 rfl)
  obtain ⟨t4, g4⟩ := (T.int 15 rfl)
  refine ⟨fd, F.ok scSched (fun vs H Q E h => ?_) (fun cdv A outer s H vs Q E hr h => ?_), FunD.bindsN F fun _ _ _ _ _ _ us hl => match us, hl with | [_, _, _], _ => rfl, F.kp, (T.glo 24 rfl)⟩
  · obtain ⟨a, m, ts, n, rfl, _⟩ := h
    rfl
  · refine ⟨_, (pss_cons (ps_if (pt_not (pt_val (pe_has Hn (hr.mono (by decide)) pass0 (pa_cons (pv 0) (pa_cons (pv 1) pa_nil)))))
 (pss_one (ps_raise rfl (takes_of rfl rfl rfl rfl) (pmk_mk0 PySem.F.excBase_ValueError (T.exq 61 rfl).1 (T.glo 9 rfl) (T.exq 61 rfl).2 (T.rai 61 rfl) (by rfl))))
 pss_nil)
 (pss_cons (ps_if (pt_not (pt_val (pe_has Hf (hr.mono (by decide)) pass0 (pa_cons (pv 2) (pa_cons pe_int (pa_cons (pe_glob (v := .int 60) (by rfl) g4 ⟨_, rfl⟩) pa_nil))))))
 (pss_one (ps_raise rfl (takes_of rfl rfl rfl rfl) (pmk_mk0 PySem.F.excBase_ValueError (T.exq 60 rfl).1 (T.glo 8 rfl) (T.exq 60 rfl).2 (T.rai 60 rfl) (by rfl))))
 pss_nil)
 (pss_cons (ps_if (pt_cmpR op_gt (pe_op op_mul (pe_op op_mul pe_int (pe_callB call_len (by rfl) (T.free 49 rfl) PySem.boot_len (pa_cons (pv 1) pa_nil))) (pv 2)) (pe_glob (v := .int 60) (by rfl) g3 ⟨_, rfl⟩) (nomark _))
 (pss_one (ps_raise rfl (takes_of rfl rfl rfl rfl) (pmk_fld (fldMost T) (hr.mono (by decide)) (pa_cons (pe_glob (v := .int 60) (by rfl) g3 ⟨_, rfl⟩) pa_nil))))
 pss_nil)
 (pss_cons (ps_set (i := 3) scSched.nd rfl (Or.inl rfl) (pe_lstS pa_nil))
 (pss_cons (ps_for (passes_of rfl) rfl (pi_range1 (by rfl) (T.free 53 rfl) (pa_cons (pv 2) pa_nil)) (pg_name (i := 4) scSched.nd rfl (Or.inl rfl))
 (pss_one (ps_for (passes_of rfl) rfl (pi_tup (pv 1)) (pg_tup (by rfl) (pgs_cons (pg_name (i := 5) scSched.nd rfl (Or.inl rfl)) (pgs_cons (pg_name (i := 6) scSched.nd rfl (Or.inl rfl)) pgs_nil)))
 (pss_cons (ps_expr (pe_bm PySem.F.plainAttrs_list PySem.F.slot_list_append PySem.F.type_list_append mt_append (pv 3) (pa_cons (pe_tup (pa_cons (pv 5) (pa_cons (pv 6) (pa_cons (pv 4) pa_nil)))) pa_nil)))
 (pss_one (ps_expr (pe_bm PySem.F.plainAttrs_list PySem.F.slot_list_append PySem.F.type_list_append mt_append (pv 3) (pa_cons (pe_tup (pa_cons (pv 6) (pa_cons (pv 5) (pa_cons (pv 4) pa_nil)))) pa_nil))))))))
 (pss_one (ps_ret (pe_hasC Hs (hr.mono (by decide)) (passes_call (takes_of rfl rfl rfl rfl) (fun _ _ _ _ h => h)) (pa_cons (pv 0) (pa_cons (pe_callTy call_tuple_of (by rfl) (T.free 55 rfl) (by decide +kernel) (pa_cons (pv 3) pa_nil)) pa_nil)))))))))), ?_⟩
    obtain ⟨a, m, ts, n, rfl, hv, g, hn, hE, hQ⟩ := h
    refine ⟨_, rfl, _, rfl, a, m, ts, rfl, hv, g, fun H1 s1 => ⟨true, rfl, iteF ?_⟩⟩
    refine ⟨_, rfl, _, .int _, 0, 60, rfl, .int _, true, by rw [fromTo_of (by omega) (by omega)], iteF ?_⟩
    have hv1 := Dq.same s1 _ _ hv
    obtain ⟨a', us, ea, ha, hr'⟩ := Dq.tup_inv hv1
    cases ea
    have len : us.length = ts.length := by rw [dqAll_len hr', List.length_map]
    refine ⟨_, rfl, _, _, rfl, .inr ⟨us, st_of ha, rfl⟩, _, _, rfl, rfl, .inl ⟨by decide, by decide⟩, _, rfl, _, _, rfl, rfl, .inr ⟨by omega, by omega⟩, _, _, rfl, rfl, _, rfl, ite2 (fun e => ?_) (fun e => ?_)⟩
    · have e' := of_decide_eq_true e
      refine raise_go (v := .int 60) (fun Q q => q) fun d H' nd sm hd => hE ?_ d H' (fresh_up s1 nd) (s1.trans sm) hd
      rw [len] at e'
      have z : ((2 * ts.length * n : Nat) : Int) = 2 * (ts.length : Int) * (n : Int) := by push_cast; rfl
      omega
    have small : 2 * ts.length * n ≤ 60 := by
      have e' : ¬ ((60 : Int) < 2 * (us.length : Int) * (n : Int)) := fun z => e (decide_eq_true z)
      rw [len] at e'
      have z : ((2 * ts.length * n : Nat) : Int) = 2 * (ts.length : Int) * (n : Int) := by push_cast; rfl
      omega
    refine ⟨by show 0 ≤ sizeLine; decide, fun p np low => ?_⟩
    refine ⟨_, rfl, n, rfl, by omega, by omega, ?_⟩
    rw [Int.toNat_natCast]
    refine for_it (walk_range (lo := 0) (n := n)) (fun i σ H' => (∃ o1 o2 o3, σ = [some (.int m), some (.ref a), some (.int ((n : Nat) : Int)), some (.ref p), o1, o2, o3]) ∧ Rows H1 p (netL ts i) H') ⟨⟨_, _, _, rfl⟩, ?_, _, upd_same, .nil⟩ (fun _ _ _ _ _ => True.intro) ?_ ?_
    · rw [delH_new np]
      exact Same.refl _
    · rintro i x σ H2 H3 hi ⟨⟨o1, o2, o3, rfl⟩, rw2⟩ ⟨rfl, rfl⟩
      have big : 2 * ts.length * (i + 1) ≤ 60 := Nat.le_trans (Nat.mul_le_mul_left _ hi) small
      have ha2 : H3 a = some (.tup us) := same_delH _ _ (rw2.sm _ _ ha)
      refine ⟨_, rfl, a, rfl, ⟨_, st_of ha2⟩, for_it walk_tup (fun j σ H' => (∃ o2 o3, σ = [some (.int m), some (.ref a), some (.int ((n : Nat) : Int)), some (.ref p), some (.int (0 + (i : Nat))), o2, o3]) ∧ Rows H1 p (netL ts i ++ (ts.take j).flatMap fun t => [(t.1, t.2, (i : Int)), (t.2, t.1, (i : Int))]) H') ⟨⟨_, _, rfl⟩, ?_⟩ (fun j σ H' _ z => st_of (same_delH _ _ (z.2.sm _ _ ha))) ?_ ?_⟩
      · simpa using rw2
      · rintro j x σ H4 H5 hj ⟨⟨o2, o3, rfl⟩, rw4⟩ ⟨rfl, hx⟩
        have hj' : j < ts.length := by omega
        have dx : Dq H5 x (mkT ts[j]) := by
          have s5 : Same H1 H5 := fun b o e => same_delH _ _ (rw4.sm _ _ e)
          exact Dq.same s5 _ _ (DqAll.at hr' hx (by rw [List.getElem?_map, List.getElem?_eq_getElem hj']; rfl))
        obtain ⟨b, rfl, hb⟩ := tie_inv dx
        obtain ⟨acc, e4, d4⟩ := rw4.at_
        have l4 := Rows.len d4
        have lt : acc.length + 2 ≤ 60 := by
          rw [l4, List.length_append, netL_len]
          have z : ∀ (us : List (Int × Int)), (us.flatMap fun t => [((t.1, t.2, (i : Int)) : Lt3), (t.2, t.1, (i : Int))]).length = 2 * us.length := fun us => by
            induction us with
            | nil => rfl
            | cons u us ih =>
              rw [List.flatMap_cons, List.length_append, ih, List.length_cons]
              simp
              omega
          rw [z, List.length_take, Nat.min_eq_left (by omega)]
          rw [Nat.mul_add] at big
          omega
        refine ⟨b, _, rfl, st_of hb, rfl, _, _, rfl, _, _, rfl, rfl, ?_⟩
        refine ⟨_, rfl, .inl ⟨rfl, _, sq_of e4⟩, _, rfl, _, rfl, _, rfl, (by show 3 ≤ sizeLine; decide), fun q nq => ⟨p, acc, _, rfl, rfl, ?_, Nat.lt_of_le_of_lt (by omega : acc.length ≤ 60) (by show 60 < sizeLine; decide), ?_⟩⟩
        · rw [upd_ne (ne_of_none e4 nq)]
          exact e4
        have r5 := rows_app (l := (ts[j].1, ts[j].2, 0 + (i : Int))) rw4.sm e4 d4 nq
        generalize upd (upd H5 q _) p _ = H6 at r5
        obtain ⟨acc6, e6, d6⟩ := r5.at_
        have l6 := Rows.len d6
        refine ⟨_, rfl, .inl ⟨rfl, _, sq_of e6⟩, _, rfl, _, rfl, _, rfl, (by show 3 ≤ sizeLine; decide), fun q2 nq2 => ⟨p, acc6, _, rfl, rfl, ?_, Nat.lt_of_le_of_lt (?_ : acc6.length ≤ 60) (by show 60 < sizeLine; decide), ?_⟩⟩
        · rw [upd_ne (ne_of_none e6 nq2)]
          exact e6
        · rw [l6, List.length_append, ← l4]
          simp
          omega
        have r7 := rows_app (l := (ts[j].2, ts[j].1, 0 + (i : Int))) r5.sm e6 d6 nq2
        refine ⟨⟨_, _, rfl⟩, ?_⟩
        have tk : ts.take (j + 1) = ts.take j ++ [ts[j]] := by rw [List.take_succ, List.getElem?_eq_getElem hj']; rfl
        rw [tk, List.flatMap_append, ← List.append_assoc]
        simpa using r7
      · rintro σ H4 ⟨⟨o2, o3, rfl⟩, rw4⟩
        refine ⟨⟨_, _, _, rfl⟩, ?_⟩
        rw [List.take_of_length_le (by omega)] at rw4
        have z : netL ts (i + 1) = netL ts i ++ ts.flatMap fun t => [(t.1, t.2, (i : Int)), (t.2, t.1, (i : Int))] := by
          unfold netL
          rw [List.range_succ, List.flatMap_append, List.flatMap_cons, List.flatMap_nil, List.append_nil]
        rw [z]
        exact rw4
    · rintro σ H2 ⟨⟨o1, o2, o3, rfl⟩, rw2⟩
      obtain ⟨acc, e2, d2⟩ := rw2.at_
      have s2 : Same H1 H2 := fun b o e => same_delH _ _ (rw2.sm _ _ e)
      refine ⟨_, rfl, _, rfl, p, acc, rfl, .inl ⟨sq_of e2, fun l nl => ?_⟩⟩
      refine sched_in (good_net g hn small) (.tup upd_same (DqAll.same (same_new nl) _ _ (DqAll.same same_delH _ _ d2))) fun p' H' s' np' at_ => hQ small p' H' (((s1.trans s2).trans (same_new nl)).trans s') (fresh_up ((s1.trans s2).trans (same_new nl)) np') at_
end
end K08

set_option maxHeartbeats 4000000
namespace K08
open PySem PySem.Spec PyProof.Rows L2 V1 V2
open Evl (pss_cut tCut sq_of st_of)
theorem good_one : GoodT 2 [(0, 1)] := ⟨by decide, by decide, fun t ht => by
  simp only [List.mem_cons, List.not_mem_nil, or_false] at ht
  subst ht
  decide, .cons (fun x hx => absurd hx List.not_mem_nil) .nil⟩
section
variable {P : Program} {w : World} {K : PySem.W.Frag} {mg : Str → Option Value} {base : Heap}
theorem ok_both (T : Tx K mg) : Has P w K mg base (L2.CX P w) 9 "both_line" ["n"] (spBoth K) := by
  obtain ⟨fd, F⟩ := T.c.def_ 8 (d := d_both_line) rfl
  have Hf := ok_fromTo (P := P) (w := w) (base := base) T
  have Hn := ok_sched (P := P) (w := w) (base := base) T
  obtain ⟨t3, g3⟩ := (T.int 14 rfl)
  refine ⟨fd, F.ok scBoth (fun vs H Q E h => ?_) (fun cdv A outer s H vs Q E hr h => ?_), FunD.bindsN F fun _ _ _ _ _ _ us hl => match us, hl with | [_], _ => rfl, F.kp, (T.glo 21 rfl)⟩
  · obtain ⟨n, rfl, _⟩ := h
    rfl
  · refine ⟨_, (pss_cons (ps_if (pt_not (pt_val (pe_has Hf (hr.mono (by decide)) pass0 (pa_cons (pv 0) (pa_cons pe_int (pa_cons (pe_op op_fdiv (pe_glob (v := .int 60) (by rfl) g3 ⟨_, rfl⟩) pe_int) pa_nil))))))
 (pss_one (ps_raise rfl (takes_of rfl rfl rfl rfl) (pmk_mk0 PySem.F.excBase_ValueError (T.exq 60 rfl).1 (T.glo 8 rfl) (T.exq 60 rfl).2 (T.rai 60 rfl) (by rfl))))
 pss_nil)
 (pss_one (ps_ret (pe_has Hn (hr.mono (by decide)) (passes_call (takes_of rfl rfl rfl rfl) (fun _ _ _ _ h => h)) (pa_cons pe_int (pa_cons (pe_tup (pa_cons (pe_tup (pa_cons pe_int (pa_cons pe_int pa_nil))) pa_nil)) (pa_cons (pv 0) pa_nil))))))), ?_⟩
    obtain ⟨n, rfl, hn, hQ⟩ := h
    refine ⟨_, rfl, _, _, rfl, rfl, ⟨by decide, by decide⟩, _, .int _, 0, _, rfl, .int _, true, by rw [fromTo_of (by omega) (by show (n : Int) ≤ 30; omega)], iteF ?_⟩
    refine ⟨by show 2 ≤ sizeLine; decide, fun p np => ⟨by show 1 ≤ sizeLine; decide, fun q nq => ?_⟩⟩
    have sp := same_new (o := HO.tup [.int 0, .int 1]) np
    have sq := same_new (o := HO.tup [.ref p]) nq
    refine ⟨_, rfl, q, 2, [(0, 1)], n, rfl, .tup upd_same (.cons (.tup (sq _ _ upd_same) (.cons (.int _) (.cons (.int _) .nil))) .nil), good_one, by omega, fun big => absurd big (by simp; omega), fun _ p' H' s' np' at_ => ?_⟩
    exact hQ p' H' ((sp.trans sq).trans s') (fresh_up (sp.trans sq) np') at_
end
end K08

set_option maxHeartbeats 4000000
namespace K08
open PySem PySem.Spec PyProof.Rows L2 V1 V2
open Evl (pss_cut tCut sq_of st_of)
/-! ### the hand of numbers -/
/-- at a: the hand: its cells' list, the four numbers -/
structure HandAt (H : Hp) (a : Addr) : Prop where
  ex : ∃ (c : Addr) (cs : List Int) (i1 i2 i3 i4 : Int), H a = some (.lst [.ref c, .int i1, .int i2, .int i3, .int i4]) ∧ (delH H a) c = some (.lst (cs.map V.int)) ∧ 0 ≤ i1 ∧ 0 ≤ i2
theorem HandAt.new {H H' : Hp} {a : Addr} (h : HandAt H a) (e : H' a = H a) (s : Same (delH H a) (delH H' a)) : HandAt H' a := by
  obtain ⟨c, cs, i1, i2, i3, i4, h1, h2, h3⟩ := h.ex
  exact ⟨c, cs, i1, i2, i3, i4, e.trans h1, s _ _ h2, h3⟩
def spHand (K : PySem.W.Frag) : Sp := fun vs H Q _ => ∃ (a : Addr) (ns : List Int), vs = [.ref a] ∧ SqL K H a (ns.map V.int) ∧ ns.length ≤ 63 ∧ ∀ (H' : Hp) (p : Addr), Same H H' → H p = none → HandAt H' p → Q (.ref p) H'
/-- the hand's first item: its cells -/
def cellsOf (H : Hp) (a : Addr) : Option V := match H a with
  | some (.lst (x :: _)) => some x
  | _ => none
theorem cellsOf_at {H : Hp} {a : Addr} {x : V} {xs : List V} (h : H a = some (.lst (x :: xs))) : cellsOf H a = some x := by
  unfold cellsOf
  rw [h]
theorem HandAt.cells {H : Hp} {a : Addr} (h : HandAt H a) : ∃ (c : Addr) (cs : List Int), cellsOf H a = some (.ref c) ∧ c ≠ a ∧ H c = some (.lst (cs.map V.int)) := by
  obtain ⟨c, cs, i1, i2, i3, i4, e, e2, _⟩ := h.ex
  have ne : c ≠ a := fun z => by
    rw [z, delH_same] at e2
    cases e2
  exact ⟨c, cs, cellsOf_at e, ne, by rw [delH_ne ne] at e2; exact e2⟩
/-- the hand stands also without what is at f -/
theorem HandAt.off {H : Hp} {a f c : Addr} (h : HandAt H a) (e : cellsOf H a = some (.ref c)) (nc : c ≠ f) (na : f ≠ a) : HandAt (delH H f) a := by
  obtain ⟨c', cs, i1, i2, i3, i4, e1, e2, p⟩ := h.ex
  rw [cellsOf_at e1] at e
  cases e
  refine ⟨c, cs, i1, i2, i3, i4, by rw [delH_ne (Ne.symm na)]; exact e1, ?_, p⟩
  have ne : c ≠ a := fun z => by
    rw [z, delH_same] at e2
    cases e2
  rw [delH_ne ne] at e2 ⊢
  rw [delH_ne nc]
  exact e2
def spDraw : Sp := fun vs H Q _ => ∃ (a : Addr) (m : Int), vs = [.ref a, .int m] ∧ HandAt H a ∧ 0 < m ∧ m < 1000000000 ∧
  ∀ (H' : Hp) (r : Int), HandAt H' a → delH H' a = delH H a → cellsOf H' a = cellsOf H a → 0 ≤ r → r < m → Q (.int r) H'
theorem scHand : FnScope ["script", "cells", "cell"] ["script"] (defScope s__law_hand) := ⟨rfl, rfl, rfl, by decide +kernel, rfl, by decide +kernel, by decide +kernel⟩
theorem scDraw : FnScope ["hand", "many", "cell", "digit", "number"] ["hand", "many"] (defScope s__law_draw) := ⟨rfl, rfl, rfl, by decide +kernel, rfl, by decide +kernel, by decide +kernel⟩
theorem scSome : FnScope ["hand", "things"] ["hand", "things"] (defScope s__law_some) := ⟨rfl, rfl, rfl, by decide +kernel, rfl, by decide +kernel, by decide +kernel⟩
theorem rest_in (z : Int) {m : Int} (h : 0 < m) : 0 ≤ z % m ∧ z % m < m := ⟨Int.emod_nonneg _ (by omega), Int.emod_lt_of_pos _ h⟩
theorem ix0 {K : PySem.W.Frag} {σ : L2.St} {H : Hp} {Q : VK} {k : Nat} {a : Addr} {xs : List V} {n : Int} {v : V} (h0 : σ[k]? = some (some (.ref a))) (hH : H a = some (.lst xs)) (hv : atI xs n = some v) (q : Q v H) : tOp (rIxL K) (tVar k) (tC (.int n)) σ H Q :=
  ⟨_, h0, a, xs, n, v, rfl, rfl, sq_of hH, hv, q⟩
theorem cut63 (ns : List Int) : cutV (ns.map V.int) none (some 63) = (ns.take 63).map V.int := by
  unfold cutV
  rw [show HT.sIx (ns.map V.int).length (ns.map V.int).length (some 63) = min 63 (ns.map V.int).length from HT.sIx_nat _ _ 63, HT.sIx_none]
  simp [List.map_take, Nat.min_comm]
def teCell : TE := tCB (fun xs H Q => ∃ i, xs = [.int i] ∧ Q (.int (if i < 0 then -i else i)) H) (tCons (tCB (fun xs H Q => (∃ i, xs = [.int i] ∧ Q (.int i) H) ∨ ∃ k, xs = [.bl k] ∧ Q (.int (if k then 1 else 0)) H) (tCons (tVar 2) tNil)) tNil)
section
variable {P : Program} {w : World} {K : PySem.W.Frag} {mg : Str → Option Value} {base : Heap}
theorem ok_hand (T : Tx K mg) : Has P w K mg base CX0 1 "_law_hand" ["script"] (spHand K) := by
  obtain ⟨fd, F⟩ := T.c.def_ 13 (d := d__law_hand) rfl
  refine ⟨fd, F.ok scHand (fun vs H Q E h => ?_) (fun cdv A outer s H vs Q E hr h => ?_), FunD.bindsN F fun _ _ _ _ _ _ us hl => match us, hl with | [_], _ => rfl, F.kp, (T.glo 26 rfl)⟩
  · obtain ⟨a, ns, rfl, _⟩ := h
    rfl
  · refine ⟨_, PSs.nox (pss_cons (ps_setLc (i := 1) (own := [("cell", 2)]) (g := gName 2) (tt := tYes) (te := teCell) (by rfl) scHand.nd rfl rfl (by rfl) (pi_list (pe_slice sl_list (pv 0) po_none (po_some pe_int)))
 (blkOk_by (own := [("cell", 2)]) (N := ["script", "cells", "cell"]) (sc := defScope s__law_hand) (by decide +kernel)) (fun _ _ _ _ _ => pg_name (i := 2) scHand.nd rfl (Or.inl rfl)) (fun _ _ _ _ _ => pts_nil) (fun _ _ _ _ _ => (pe_callB call_abs (by rfl) (T.free 43 rfl) (by decide +kernel) (pa_cons (pe_callTy call_int1 (by rfl) (T.free 47 rfl) (by decide +kernel) (pa_cons (pv 2) pa_nil)) pa_nil))))
 (pss_one (ps_ret (pe_lst (pa_cons (pv 1) (pa_cons pe_int (pa_cons pe_int (pa_cons (pe_op op_add pe_int (pe_callB call_len (by rfl) (T.free 49 rfl) PySem.boot_len (pa_cons (pv 1) pa_nil))) (pa_cons pe_int pa_nil))))))))), ?_⟩
    obtain ⟨a, ns, rfl, hS, hl, hQ⟩ := h
    refine ⟨_, rfl, 63, rfl, a, _, rfl, hS, fun p np => ?_⟩
    rw [cut63]
    have sp := same_new (o := .lst ((ns.take 63).map V.int)) np
    refine ⟨p, rfl, ⟨_, sq_of upd_same⟩, fun D nD => ?_⟩
    refine lc_gen (σ := [some (.ref a), none, none]) (vs := [2]) (walk_list (K := K) (a := p) (xs := (ns.take 63).map V.int)) nD (fun i acc H' => Same (upd H p (.lst ((ns.take 63).map V.int))) H' ∧ ∃ cs : List Int, acc = cs.map V.int) ⟨Same.refl _, [], rfl⟩ (fun i acc H' _ z => sq_of (same_delH _ _ (z.1 _ _ upd_same))) ?_ ?_
    · rintro i acc x H1 H2 hi l e ⟨sm, cs, rfl⟩ ⟨rfl, hx⟩
      rw [List.getElem?_map] at hx
      obtain ⟨z, hz, rfl⟩ := Option.map_eq_some_iff.mp hx
      refine ⟨rfl, ?_⟩
      simp only [tYes, if_true]
      have li : i < 1000 := by
        rw [List.length_map, List.length_take] at hi
        omega
      exact ⟨_, rfl, .inl ⟨z, rfl, z, rfl, lc_put l li e ⟨sm, cs ++ [if z < 0 then -z else z], by rw [List.map_append]; rfl⟩⟩⟩
    · rintro acc H1 l e ⟨sm, cs, rfl⟩
      refine ⟨_, rfl, _, rfl, _, _, rfl, .inl ⟨_, sq_of e, rfl⟩, _, _, rfl, rfl, (by show 5 ≤ sizeLine; decide), fun q nq => ?_⟩
      have s1 : Same H H1 := fun b o ob => same_delH _ _ (sm _ _ (sp _ _ ob))
      refine hQ _ q (s1.trans (same_new nq)) (fresh_up s1 nq) ⟨D, cs, _, _, _, _, upd_same, ?_, by decide, by decide⟩
      rw [delH_new nq]
      exact e
theorem ok_draw (T : Tx K mg) : Has P w K mg base CX0 1 "_law_draw" ["hand", "many"] spDraw := by
  obtain ⟨fd, F⟩ := T.c.def_ 14 (d := d__law_draw) rfl
  refine ⟨fd, F.ok scDraw (fun vs H Q E h => ?_) (fun cdv A outer s H vs Q E hr h => ?_), FunD.bindsN F fun _ _ _ _ _ _ us hl => match us, hl with | [_, _], _ => rfl, F.kp, (T.glo 27 rfl)⟩
  · obtain ⟨a, m, rfl, _⟩ := h
    rfl
  · refine ⟨_, PSs.nox (pss_cut (ps_if (PW.pt (pw_and (pt_cmpR op_eq (pe_ix ix_list (pv 0) pe_int (fun _ _ => rfl)) pe_int (nomark _)) (pw_and1 (pt_cmpR op_lt (pe_ix ix_list (pv 0) pe_int (fun _ _ => rfl)) (pe_callB call_len (by rfl) (T.free 49 rfl) PySem.boot_len (pa_cons (pe_ix ix_list (pv 0) pe_int (fun _ _ => rfl)) pa_nil)) (nomark _)))))
 (pss_cons (ps_set (i := 2) scDraw.nd rfl (Or.inl rfl) (pe_ix ix_list (pe_ix ix_list (pv 0) pe_int (fun _ _ => rfl)) (pe_ix ix_list (pv 0) pe_int (fun _ _ => rfl)) (fun _ _ => rfl)))
 (pss_cons (ps_asg (pe_op op_add (pe_ix ix_list (pv 0) pe_int (fun _ _ => rfl)) pe_int) (pg_sub (pv 0) pe_int set_list))
 (pss_cons (ps_asg (pe_op op_mod (pe_callTy call_int1 (by rfl) (T.free 47 rfl) (by decide +kernel) (pa_cons (pe_op op_add (pe_op op_add (pe_op op_mul (pe_ix ix_list (pv 0) pe_int (fun _ _ => rfl)) pe_int) (pv 2)) pe_int) pa_nil)) pe_int) (pg_sub (pv 0) pe_int set_list))
 (pss_one (ps_if (pt_cmpR op_ge (pv 2) (pe_op op_pow pe_int pe_int) (nomark _))
 (pss_one (ps_asg (pv 2) (pg_sub (pv 0) pe_int set_list)))
 pss_nil)))))
 pss_nil)
 (pss_cons (ps_if (pt_cmpR op_gt (pe_ix ix_list (pv 0) pe_int (fun _ _ => rfl)) pe_int (nomark _))
 (pss_cons (ps_set (i := 3) scDraw.nd rfl (Or.inl rfl) (pe_op op_mod (pe_callTy call_int1 (by rfl) (T.free 47 rfl) (by decide +kernel) (pa_cons (pe_ix ix_list (pv 0) pe_int (fun _ _ => rfl)) pa_nil)) (pv 1)))
 (pss_cons (ps_asg (pe_op op_fdiv (pe_ix ix_list (pv 0) pe_int (fun _ _ => rfl)) (pv 1)) (pg_sub (pv 0) pe_int set_list))
 (pss_one (ps_ret (pv 3)))))
 pss_nil)
 (pss_cons (ps_asg (pe_op op_add (pe_ix ix_list (pv 0) pe_int (fun _ _ => rfl)) pe_int) (pg_sub (pv 0) pe_int set_list))
 (pss_cons (ps_set (i := 4) scDraw.nd rfl (Or.inl rfl) (pe_op op_mod (pe_callTy call_int1 (by rfl) (T.free 47 rfl) (by decide +kernel) (pa_cons (pe_op op_mul (pe_callTy call_int1 (by rfl) (T.free 47 rfl) (by decide +kernel) (pa_cons (pe_op op_add (pe_ix ix_list (pv 0) pe_int (fun _ _ => rfl)) (pe_op op_mul pe_int (pe_ix ix_list (pv 0) pe_int (fun _ _ => rfl)))) pa_nil)) pe_int) pa_nil)) pe_int))
 (pss_cons (ps_set (i := 4) scDraw.nd rfl (Or.inl rfl) (pe_op op_mod (pe_callTy call_int1 (by rfl) (T.free 47 rfl) (by decide +kernel) (pa_cons (pe_op op_mul (pv 4) (pe_op op_add (pe_op op_fdiv (pv 4) pe_int) pe_int)) pa_nil)) pe_int))
 (pss_cons (ps_set (i := 4) scDraw.nd rfl (Or.inl rfl) (pe_op op_mod (pe_callTy call_int1 (by rfl) (T.free 47 rfl) (by decide +kernel) (pa_cons (pe_op op_mul (pv 4) (pe_op op_add (pe_op op_fdiv (pv 4) pe_int) pe_int)) pa_nil)) pe_int))
 (pss_one (ps_ret (pe_op op_mod (pe_callTy call_int1 (by rfl) (T.free 47 rfl) (by decide +kernel) (pa_cons (pe_op op_fdiv (pv 4) pe_int) pa_nil)) (pv 1)))))))))), ?_⟩
    obtain ⟨a, m, rfl, hd, m0, m1, hQ⟩ := h
    obtain ⟨c, cs, i1, i2, i3, i4, h1, h2, h3, h4⟩ := hd.ex
    refine ⟨fun σ H1 => ∃ (j1 j2 j3 j4 : Int) (v2 : Option V), σ = [some (.ref a), some (.int m), v2, none, none] ∧ H1 a = some (.lst [.ref c, .int j1, .int j2, .int j3, .int j4]) ∧ delH H1 a = delH H a ∧ 0 ≤ j1 ∧ 0 ≤ j2, ?_, ?_⟩
    · -- a new cell is taken
      have hc : H c = some (.lst (cs.map V.int)) := same_delH _ _ h2
      have nca : c ≠ a := fun z => by
        rw [z, delH_same] at h2
        cases h2
      refine ix0 rfl h1 rfl ⟨rfl, _, rfl, ?_⟩
      refine ite2 (fun e2 => ?_) (fun _ => ?_)
      · refine ix0 rfl h1 rfl (ix0 rfl h1 rfl ⟨_, _, rfl, .inl ⟨_, sq_of hc, rfl⟩, _, _, rfl, rfl, _, rfl, ?_⟩)
        refine ite2 (fun e1 => ?_) (fun _ => ?_)
        · have e1' := of_decide_eq_true e1
          rw [List.length_map] at e1'
          obtain ⟨j, rfl⟩ := Int.eq_ofNat_of_zero_le h3
          have hj : j < cs.length := by omega
          have at_ : atI (cs.map V.int) ((j : Nat) : Int) = some (.int cs[j]) := atI_nat (by rw [List.getElem?_map, List.getElem?_eq_getElem hj]; rfl)
          refine ix0 rfl h1 rfl (ix0 rfl h1 rfl ⟨c, _, _, _, rfl, rfl, sq_of hc, at_, ?_⟩)
          refine ix0 rfl h1 rfl ⟨_, _, rfl, rfl, _, rfl, a, _, _, 1, rfl, rfl, h1, rfl, ?_⟩
          refine ix0 rfl upd_same rfl ⟨_, _, rfl, rfl, .inr ⟨by decide, by decide⟩, _, rfl, _, _, rfl, rfl, _, _, rfl, rfl, .inl ⟨_, rfl, _, _, rfl, rfl, (by show (0 : Int) < 2147483629; decide), _, rfl, a, _, _, 3, rfl, rfl, upd_same, rfl, ?_⟩⟩
          rw [upd_upd]
          refine ⟨_, rfl, _, _, rfl, rfl, ⟨by decide, by decide, by decide⟩, _, _, rfl, rfl, _, rfl, ?_⟩
          refine ite2 (fun big => ?_) (fun _ => ?_)
          · refine ⟨_, rfl, _, rfl, a, _, _, 2, rfl, rfl, upd_same, rfl, ?_⟩
            rw [upd_upd]
            refine ⟨_, _, _, _, _, rfl, upd_same, by rw [delH_upd], by omega, ?_⟩
            have b := of_decide_eq_true big
            exact Int.le_trans (by decide) b
          · refine ⟨_, _, _, _, _, rfl, upd_same, by rw [delH_upd], by omega, h4⟩
        · exact ⟨_, _, _, _, _, rfl, h1, rfl, h3, h4⟩
      · exact ⟨_, _, _, _, _, rfl, h1, rfl, h3, h4⟩
    · rintro σ H1 ⟨j1, j2, j3, j4, v2, rfl, g1, g2, g3, g4⟩
      refine ix0 rfl g1 rfl ⟨_, _, rfl, rfl, _, rfl, ?_⟩
      refine ite2 (fun e => ?_) (fun e => ?_)
      · refine ix0 rfl g1 rfl (.inl ⟨_, rfl, _, rfl, _, _, rfl, rfl, m0, ?_⟩)
        refine ix0 rfl g1 rfl ⟨_, rfl, _, _, rfl, rfl, ⟨m0, by omega⟩, _, rfl, a, _, _, 2, rfl, rfl, g1, rfl, _, rfl, ?_⟩
        refine hQ _ _ ⟨c, cs, j1, j2 / m, j3, j4, upd_same, ?_, g3, Int.ediv_nonneg g4 (by omega)⟩ (by rw [delH_upd, g2]) ((cellsOf_at (x := .ref c) upd_same).trans (cellsOf_at h1).symm) (Int.emod_nonneg _ (by omega)) (Int.emod_lt_of_pos _ m0)
        rw [delH_upd, g2]
        exact h2
      · refine ix0 rfl g1 rfl ⟨_, _, rfl, rfl, _, rfl, a, _, _, 4, rfl, rfl, g1, rfl, ?_⟩
        refine ix0 rfl upd_same rfl (ix0 rfl upd_same rfl ⟨_, _, rfl, rfl, .inl ⟨by decide, by decide⟩, _, _, rfl, rfl, .inl ⟨_, rfl, _, _, rfl, rfl, .inr ⟨by decide, by decide⟩, .inl ⟨_, rfl, _, _, rfl, rfl, (by show (0 : Int) < 2147483647; decide), ?_⟩⟩⟩)
        have b1 := rest_in ((j3 + 7919 * (j4 + 1)) * 48271) (m := 2147483647) (by decide)
        refine ⟨_, rfl, _, rfl, _, _, rfl, rfl, ⟨by decide, by decide⟩, _, _, rfl, rfl, _, _, rfl, rfl, .inl ⟨by omega, by omega⟩, .inl ⟨_, rfl, _, _, rfl, rfl, (by show (0 : Int) < 2147483647; decide), ?_⟩⟩
        have b2 := fun z : Int => rest_in z (m := 2147483647) (by decide)
        refine ⟨_, rfl, _, rfl, _, _, rfl, rfl, ⟨by decide, by decide⟩, _, _, rfl, rfl, _, _, rfl, rfl, .inl ⟨Int.lt_of_lt_of_le (by decide) (b2 _).1, Int.lt_of_lt_of_le (b2 _).2 (by decide)⟩, .inl ⟨_, rfl, _, _, rfl, rfl, (by show (0 : Int) < 2147483399; decide), ?_⟩⟩
        refine ⟨_, rfl, _, _, rfl, rfl, ⟨by decide, by decide⟩, .inl ⟨_, rfl, _, rfl, _, _, rfl, rfl, m0, ?_⟩⟩
        refine hQ _ _ ⟨c, cs, j1, j2, j3, j4 + 1, upd_same, ?_, g3, g4⟩ (by rw [delH_upd, g2]) ((cellsOf_at (x := .ref c) upd_same).trans (cellsOf_at h1).symm) (Int.emod_nonneg _ (by omega)) (Int.emod_lt_of_pos _ m0)
        rw [delH_upd, g2]
        exact h2
end
end K08

set_option maxHeartbeats 4000000
namespace K08
open PySem PySem.Spec PyProof.Rows L2 V1 V2
open Evl (pss_cut tCut sq_of st_of)
def spSome (K : PySem.W.Frag) : Sp := fun vs H Q _ => ∃ (a p : Addr) (xs : List V), vs = [.ref a, .ref p] ∧ HandAt H a ∧ H p = some (.lst xs) ∧ p ≠ a ∧ 0 < xs.length ∧ xs.length < 1000 ∧
  ∀ (H' : Hp) (i : Nat) (v : V), HandAt H' a → delH H' a = delH H a → cellsOf H' a = cellsOf H a → xs[i]? = some v → Q v H'
def spNumber : Sp := fun vs H Q _ => ∃ v d m, vs = [v, .int m] ∧ Dq H v d ∧ Q (.bl (fromTo 0 (m - 1) d)) H
def spIsLetter : Sp := fun vs H Q _ => ∃ v d m, vs = [.int m, v] ∧ Dq H v d ∧ Q (.bl (letterOf m d)) H
def partV (d1 d2 : PyData) : V := (partOf d1 d2).getD (.str "let")
def spPart : Sp := fun vs H Q _ => ∃ v1 v2 d1 d2, vs = [v1, v2] ∧ Dq H v1 d1 ∧ Dq H v2 d2 ∧ ∀ H', Same H H' → Q (partV d1 d2) H'
theorem scNumber : FnScope ["thing", "many"] ["thing", "many"] (defScope s__law_is_number) := ⟨rfl, rfl, rfl, by decide +kernel, rfl, by decide +kernel, by decide +kernel⟩
theorem scIsLetter : FnScope ["many", "one"] ["many", "one"] (defScope s__law_is_letter) := ⟨rfl, rfl, rfl, by decide +kernel, rfl, by decide +kernel, by decide +kernel⟩
theorem scPart : FnScope ["many", "letters", "at"] ["many", "letters"] (defScope s__law_part) := ⟨rfl, rfl, rfl, by decide +kernel, rfl, by decide +kernel, by decide +kernel⟩
section
variable {P : Program} {w : World} {K : PySem.W.Frag} {mg : Str → Option Value} {base : Heap}
theorem ok_some (T : Tx K mg) : Has P w K mg base CX0 2 "_law_some" ["hand", "things"] (spSome K) := by
  obtain ⟨fd, F⟩ := T.c.def_ 15 (d := d__law_some) rfl
  have Hd := ok_draw (P := P) (w := w) (base := base) T
  refine ⟨fd, F.ok scSome (fun vs H Q E h => ?_) (fun cdv A outer s H vs Q E hr h => ?_), FunD.bindsN F fun _ _ _ _ _ _ us hl => match us, hl with | [_, _], _ => rfl, F.kp, (T.glo 28 rfl)⟩
  · obtain ⟨a, p, xs, rfl, _⟩ := h
    rfl
  · refine ⟨_, PSs.nox (pss_one (ps_ret (pe_ix ix_list (pv 1) (pe_has Hd (hr.mono (by decide)) pass0 (pa_cons (pv 0) (pa_cons (pe_callB call_len (by rfl) (T.free 49 rfl) PySem.boot_len (pa_cons (pv 1) pa_nil)) pa_nil))) (fun _ _ => rfl)))), ?_⟩
    obtain ⟨a, p, xs, rfl, hd, hp, ne, l0, l1, hQ⟩ := h
    refine ⟨_, rfl, _, rfl, _, rfl, _, _, rfl, .inl ⟨xs, sq_of hp, rfl⟩, a, _, rfl, hd, by omega, by omega, fun H' r hd' e ec r0 r1 => ?_⟩
    obtain ⟨j, rfl⟩ := Int.eq_ofNat_of_zero_le r0
    have hj : j < xs.length := by omega
    have e' : H' p = some (.lst xs) := by
      have z := congrFun e p
      rw [delH_ne ne, delH_ne ne] at z
      exact z.trans hp
    exact ⟨p, xs, _, xs[j], rfl, rfl, sq_of e', atI_nat (List.getElem?_eq_getElem hj), hQ H' j _ hd' e ec (List.getElem?_eq_getElem hj)⟩
theorem ok_number (T : Tx K mg) : Has P w K mg base CX0 1 "_law_is_number" ["thing", "many"] spNumber := by
  obtain ⟨fd, F⟩ := T.c.def_ 17 (d := d__law_is_number) rfl
  refine ⟨fd, F.ok scNumber (fun vs H Q E h => ?_) (fun cdv A outer s H vs Q E hr h => ?_), FunD.bindsN F fun _ _ _ _ _ _ us hl => match us, hl with | [_, _], _ => rfl, F.kp, (T.glo 30 rfl)⟩
  · obtain ⟨v, d, m, rfl, _⟩ := h
    rfl
  · refine ⟨_, PSs.nox (pss_one (ps_ret (pe_and (pe_callB call_isi (by rfl) (T.free 48 rfl) (by decide +kernel) (pa_cons (pv 0) (pa_cons (pe_bltn (v := .ty "int") (by rfl) (T.free 47 rfl) (by decide +kernel) rfl) pa_nil))) (pe_and (pe_not (pe_callB call_isi (by rfl) (T.free 48 rfl) (by decide +kernel) (pa_cons (pv 0) (pa_cons (pe_bltn (v := .ty "bool") (by rfl) (T.free 45 rfl) (by decide +kernel) rfl) pa_nil)))) (pe_one (pe_chain op_le op_lt pe_int (pv 0) (pv 1))))))), ?_⟩
    obtain ⟨v, d, m, rfl, hd, hQ⟩ := h
    refine isi_go (kit_int d) (fun Q q => ⟨v, rfl, q⟩) hd ⟨_, rfl, ite2 (fun e => ?_) (fun e => ?_)⟩
    · refine isi_go (kit_bool d) (fun Q q => ⟨v, rfl, q⟩) hd ⟨_, rfl, _, rfl, ite2 (fun e1 => ?_) (fun e1 => ?_)⟩
      · obtain ⟨n, rfl⟩ : ∃ n, d = .int n := by
          cases d with
          | int n => exact ⟨n, rfl⟩
          | bool b => cases e1
          | _ => cases e
        obtain rfl := Dq.int_inv hd
        refine ⟨_, rfl, _, _, rfl, rfl, _, rfl, ite2 (fun e2 => ?_) (fun e2 => ?_)⟩
        · refine ⟨_, rfl, _, _, rfl, rfl, ?_⟩
          have z : fromTo 0 (m - 1) (.int n) = decide (n < m) := by
            show (decide (0 ≤ n) && decide (n ≤ m - 1)) = _
            rw [e2, Bool.true_and, decide_eq_decide]
            omega
          rw [z] at hQ
          exact hQ
        · have z : fromTo 0 (m - 1) (.int n) = false := by
            show (decide (0 ≤ n) && decide (n ≤ m - 1)) = _
            rw [Bool.eq_false_iff.mpr e2, Bool.false_and]
          rw [z] at hQ
          exact hQ
      · cases d <;> first | exact absurd rfl e1 | exact hQ
    · cases d <;> first | exact hQ | exact absurd rfl e
theorem ok_isLetter (T : Tx K mg) : Has P w K mg base CX0 2 "_law_is_letter" ["many", "one"] spIsLetter := by
  obtain ⟨fd, F⟩ := T.c.def_ 20 (d := d__law_is_letter) rfl
  have Hn := ok_number (P := P) (w := w) (base := base) T
  refine ⟨fd, F.ok scIsLetter (fun vs H Q E h => ?_) (fun cdv A outer s H vs Q E hr h => ?_), FunD.bindsN F fun _ _ _ _ _ _ us hl => match us, hl with | [_, _], _ => rfl, F.kp, (T.glo 33 rfl)⟩
  · obtain ⟨v, d, m, rfl, _⟩ := h
    rfl
  · refine ⟨_, PSs.nox (pss_cons (ps_if (PW.pt (pw_or (pt_not (pt_val (pe_callB call_isi (by rfl) (T.free 48 rfl) (by decide +kernel) (pa_cons (pv 1) (pa_cons (pe_bltn (v := .ty "tuple") (by rfl) (T.free 55 rfl) (by decide +kernel) rfl) pa_nil))))) (pw_or1 (pt_cmpR op_ne (pe_callB call_len (by rfl) (T.free 49 rfl) PySem.boot_len (pa_cons (pv 1) pa_nil)) pe_int (nomark _)))))
 (pss_one (ps_ret pe_bl))
 pss_nil)
 (pss_cons (ps_if (PW.pt (pw_or (pt_not (pt_val (pe_has Hn (hr.mono (by decide)) pass0 (pa_cons (pe_ix ix_tup (pv 1) pe_int (fun _ _ => rfl)) (pa_cons (pv 0) pa_nil))))) (pw_or1 (pt_not (pt_val (pe_has Hn (hr.mono (by decide)) pass0 (pa_cons (pe_ix ix_tup (pv 1) pe_int (fun _ _ => rfl)) (pa_cons (pv 0) pa_nil))))))))
 (pss_one (ps_ret pe_bl))
 pss_nil)
 (pss_one (ps_ret (pe_and (pe_cmpR op_ne (pe_ix ix_tup (pv 1) pe_int (fun _ _ => rfl)) (pe_ix ix_tup (pv 1) pe_int (fun _ _ => rfl)) (nomark _)) (pe_one (pe_has Hn (hr.mono (by decide)) pass0 (pa_cons (pe_ix ix_tup (pv 1) pe_int (fun _ _ => rfl)) (pa_cons pe_int pa_nil))))))))), ?_⟩
    obtain ⟨v, d, m, rfl, hd, hQ⟩ := h
    refine isi_go (kit_tup d) (fun Q q => ⟨v, rfl, q⟩) hd ⟨_, rfl, ite2 (fun e => ?_) (fun e => ?_)⟩
    · have e' : isTup d = false := by simpa using e
      have z : letterOf m d = false := letterOf_not fun a b c q => by rw [q] at e'; cases e'
      rw [z] at hQ
      exact iteT hQ
    have e' : isTup d = true := by simpa using e
    obtain ⟨xs, rfl⟩ := isTup_tup e'
    obtain ⟨p, us, rfl, hp, hr'⟩ := Dq.tup_inv hd
    have len := dqAll_len hr'
    refine ⟨_, rfl, _, _, rfl, .inr ⟨us, st_of hp, rfl⟩, rfl, _, rfl, ite2 (fun e3 => ?_) (fun e3 => ?_)⟩
    · have ne : us.length ≠ 3 := fun z => by
        rw [z] at e3
        simp at e3
      have z : letterOf m (.tuple xs) = false := letterOf_not fun a b c q => by
        cases q
        exact ne len
      rw [z] at hQ
      exact hQ
    have l3 : xs.length = 3 := by
      have z : (us.length : Int) = 3 := by simpa [dec_int] using e3
      omega
    match xs, l3 with
    | [a, b, c], _ =>
    cases hr' with | @cons va _ _ _ qa r1 =>
    cases r1 with | @cons vb _ _ _ qb r2 =>
    cases r2 with | @cons vc _ _ _ qc r3 =>
    cases r3
    have lk : letterOf m (.tuple [a, b, c]) = (fromTo 0 (m - 1) a && (fromTo 0 (m - 1) b && (!(PyData.eqv a b) && fromTo 0 999 c))) := rfl
    refine ⟨_, rfl, p, _, 0, va, rfl, rfl, st_of hp, rfl, _, rfl, va, a, m, rfl, qa, _, rfl, ite2 (fun e1 => ?_) (fun e1 => ?_)⟩
    · have e1' : fromTo 0 (m - 1) a = false := by simpa using e1
      rw [lk, e1', Bool.false_and] at hQ
      exact iteT hQ
    have e1' : fromTo 0 (m - 1) a = true := by simpa using e1
    refine ⟨_, rfl, p, _, 1, vb, rfl, rfl, st_of hp, rfl, _, rfl, vb, b, m, rfl, qb, _, rfl, ite2 (fun e2 => ?_) (fun e2 => ?_)⟩
    · have e2' : fromTo 0 (m - 1) b = false := by simpa using e2
      rw [lk, e1', e2', Bool.true_and, Bool.false_and] at hQ
      exact hQ
    have e2' : fromTo 0 (m - 1) b = true := by simpa using e2
    rw [lk, e1', e2', Bool.true_and, Bool.true_and] at hQ
    obtain ⟨i, rfl, _⟩ := fromTo_int e1'
    obtain ⟨j, rfl, _⟩ := fromTo_int e2'
    obtain rfl := Dq.int_inv qa
    obtain rfl := Dq.int_inv qb
    have ne : (!decide (V.int i = V.int j)) = !(PyData.eqv (.int i) (.int j)) := by
      rw [dec_int]
      rfl
    refine ⟨_, rfl, p, _, 0, _, rfl, rfl, st_of hp, rfl, _, rfl, p, _, 1, _, rfl, rfl, st_of hp, rfl, rfl, _, rfl, ite2 (fun e4 => ?_) (fun e4 => ?_)⟩
    · rw [ne] at e4
      rw [e4, Bool.true_and] at hQ
      exact ⟨_, rfl, p, _, 2, vc, rfl, rfl, st_of hp, rfl, vc, c, 1000, rfl, qc, hQ⟩
    · rw [ne] at e4
      rw [Bool.eq_false_iff.mpr e4, Bool.false_and] at hQ
      exact hQ
theorem ok_part (T : Tx K mg) : Has P w K mg base CX0 3 "_law_part" ["many", "letters"] spPart := by
  obtain ⟨fd, F⟩ := T.c.def_ 21 (d := d__law_part) rfl
  have Hn := ok_number (P := P) (w := w) (base := base) T
  have Hl := ok_isLetter (P := P) (w := w) (base := base) T
  refine ⟨fd, F.ok scPart (fun vs H Q E h => ?_) (fun cdv A outer s H vs Q E hr h => ?_), FunD.bindsN F fun _ _ _ _ _ _ us hl => match us, hl with | [_, _], _ => rfl, F.kp, (T.glo 34 rfl)⟩
  · obtain ⟨v1, v2, d1, d2, rfl, _⟩ := h
    rfl
  · have hu : (A.deeper (envOfC d__law_part.qual d__law_part.scope s.heap.objs.size (He.fAd K d__law_part.at_) cdv)).units + 70 < cLine := by
      have := hr.un
      omega
    refine ⟨_, PSs.nox (pss_cons (ps_if (PW.pt (pw_or (pt_not (pt_val (pe_has Hn (hr.mono (by decide)) pass0 (pa_cons (pv 0) (pa_cons pe_int pa_nil))))) (pw_or1 (pt_cmpR op_lt (pv 0) pe_int (nomark _)))))
 (pss_one (ps_ret pe_str))
 pss_nil)
 (pss_cons (ps_if (PW.pt (pw_or (pt_not (pt_val (pe_callB call_isi (by rfl) (T.free 48 rfl) (by decide +kernel) (pa_cons (pv 1) (pa_cons (pe_bltn (v := .ty "tuple") (by rfl) (T.free 55 rfl) (by decide +kernel) rfl) pa_nil))))) (pw_or1 (pt_cmpR op_gt (pe_callB call_len (by rfl) (T.free 49 rfl) PySem.boot_len (pa_cons (pv 1) pa_nil)) pe_int (nomark _)))))
 (pss_one (ps_ret pe_str))
 pss_nil)
 (pss_cons (ps_for PassesOwn.never rfl (pi_range1 (by rfl) (T.free 53 rfl) (pa_cons (pe_callB call_len (by rfl) (T.free 49 rfl) PySem.boot_len (pa_cons (pv 1) pa_nil)) pa_nil)) (pg_name (i := 2) scPart.nd rfl (Or.inl rfl))
 (pss_cons (ps_if (pt_not (pt_val (pe_has Hl (hr.mono (by decide)) pass0 (pa_cons (pv 0) (pa_cons (pe_ix ix_tup (pv 1) (pv 2) (fun _ _ => rfl)) pa_nil)))))
 (pss_one (ps_ret (pv 2)))
 pss_nil)
 (pss_one (ps_if (PW.pt (pw_or (PW.pt (pw_and (pt_cmpR op_gt (pv 2) pe_int (nomark _)) (pw_and1 (pt_cmpR op_lt (pe_ix ix_tup (pe_ix ix_tup (pv 1) (pv 2) (fun _ _ => rfl)) pe_int (fun _ _ => rfl)) (pe_ix ix_tup (pe_ix ix_tup (pv 1) (pe_op op_sub (pv 2) pe_int) (fun _ _ => rfl)) pe_int (fun _ _ => rfl)) (nomark _))))) (pw_or1 (pt_cmpR (op_inT hu) (pe_ix ix_tup (pv 1) (pv 2) (fun _ _ => rfl)) (pe_slice sl_tup (pv 1) po_none (po_some (pv 2))) (by rfl)))))
 (pss_one (ps_ret (pv 2)))
 pss_nil))))
 (pss_one (ps_ret pe_str))))), ?_⟩
    obtain ⟨v1, v2, d1, d2, rfl, h1, h2, hQ⟩ := h
    have many_ : fromTo 2 8 d1 = false → Q (.str "many") H := fun e => by
      have z : partV d1 d2 = .str "many" := by
        unfold partV partOf
        rw [if_neg (by rw [e]; decide)]
        rfl
      rw [← z]
      exact hQ H (Same.refl H)
    refine ⟨_, rfl, v1, d1, 9, rfl, h1, _, rfl, ite2 (fun e => ?_) (fun e => ?_)⟩
    · refine iteT (many_ ?_)
      cases d1 with
      | int n =>
        have z : n < 0 ∨ 8 < n := by simpa [V2.fromTo] using e
        unfold V2.fromTo
        rw [Bool.and_eq_false_iff, decide_eq_false_iff_not, decide_eq_false_iff_not]
        omega
      | _ => rfl
    have e' : fromTo 0 8 d1 = true := by simpa using e
    obtain ⟨m, rfl, m0, m8⟩ := fromTo_int e'
    obtain rfl := Dq.int_inv h1
    refine ⟨_, rfl, _, _, rfl, rfl, _, rfl, ite2 (fun e1 => ?_) (fun e1 => ?_)⟩
    · refine many_ ?_
      have z := of_decide_eq_true e1
      unfold V2.fromTo
      rw [Bool.and_eq_false_iff, decide_eq_false_iff_not, decide_eq_false_iff_not]
      omega
    have m2 : 2 ≤ m := by
      have z : ¬ m < 2 := fun z => e1 (decide_eq_true z)
      omega
    have f1 : fromTo 2 8 (.int m) = true := fromTo_of m2 m8
    have lett : tupOf 0 60 d2 = false → Q (.str "letters") H := fun e => by
      have z : partV (.int m) d2 = .str "letters" := by
        unfold partV partOf
        rw [if_pos f1, if_neg (by rw [e]; decide)]
        rfl
      rw [← z]
      exact hQ H (Same.refl H)
    refine ⟨_, rfl, v2, .ty "tuple", _, _, isTup d2, rfl, .ty "tuple", dq_ty h2, kit_ty (kit_tup d2), _, rfl, ite2 (fun e2 => ?_) (fun e2 => ?_)⟩
    · refine iteT (lett ?_)
      cases d2 with
      | tuple xs => cases e2
      | _ => rfl
    have e2' : isTup d2 = true := by simpa using e2
    obtain ⟨ds, rfl⟩ := isTup_tup e2'
    obtain ⟨p, us, rfl, hp, hr'⟩ := Dq.tup_inv h2
    have len := dqAll_len hr'
    refine ⟨_, rfl, _, _, rfl, .inr ⟨us, st_of hp, rfl⟩, _, _, rfl, rfl, _, rfl, ite2 (fun e3 => ?_) (fun e3 => ?_)⟩
    · refine lett ?_
      have z := of_decide_eq_true e3
      unfold tupOf
      rw [Bool.and_eq_false_iff, decide_eq_false_iff_not, decide_eq_false_iff_not]
      omega
    have l60 : ds.length ≤ 60 := by
      have z : ¬ ((60 : Int) < (us.length : Int)) := fun z => e3 (decide_eq_true z)
      omega
    have f2 : tupOf 0 60 (.tuple ds) = true := by
      simp only [tupOf, Bool.and_eq_true, decide_eq_true_eq]
      omega
    have pv_ : partV (.int m) (.tuple ds) = ((firstBad m ds).map fun i => V.int (i : Nat)).getD (.str "let") := by
      unfold partV partOf
      rw [if_pos f1, if_pos f2]
    refine ⟨_, rfl, _, _, rfl, .inr ⟨us, st_of hp, rfl⟩, us.length, rfl, by omega, by omega, ?_⟩
    rw [Int.toNat_natCast]
    refine for_it (walk_range (lo := 0) (n := us.length)) (fun i σ H' => Same H H' ∧ (∃ o, σ = [some (.int m), some (.ref p), o]) ∧ ∀ j, j < i → okAt m ds j = true) ⟨Same.refl H, ⟨_, rfl⟩, fun j hj => absurd hj (Nat.not_lt_zero j)⟩ (fun _ _ _ _ _ => True.intro) ?_ (fun σ H' pr => ?_)
    · rintro i x σ H1 H2 hi ⟨s1, ⟨o, rfl⟩, hok⟩ ⟨rfl, rfl⟩
      have hi' : i < ds.length := by omega
      have hp2 := s1 _ _ hp
      have ui : us[i]? = some us[i] := List.getElem?_eq_getElem hi
      have at_ : atI us (0 + ((i : Nat) : Int)) = some us[i] := by rw [Int.zero_add]; exact atI_nat ui
      have hv : Dq H2 us[i] (ds.getD i .none) := Dq.same s1 _ _ (DqAll.at hr' ui (getD_at hi'))
      have ret : okAt m ds i = false → ∀ H', Same H H' → Q (.int (0 + ((i : Nat) : Int))) H' := fun bad H' s' => by
        have z : partV (.int m) (.tuple ds) = .int (0 + ((i : Nat) : Int)) := by
          rw [pv_, firstBad_some hi' bad hok, Int.zero_add]
          rfl
        rw [← z]
        exact hQ H' s'
      have look : okAt m ds i = (letterOf m (ds.getD i .none) && (!(decide (0 < i) && decide (beatOf (ds.getD i .none) < beatOf (ds.getD (i - 1) .none))) && !((ds.take i).any fun z => PyData.eqv z (ds.getD i .none)))) := rfl
      refine ⟨_, rfl, _, rfl, _, rfl, p, us, _, _, rfl, rfl, st_of hp2, at_, us[i], _, m, rfl, hv, _, rfl, ite2 (fun e => ?_) (fun e => ?_)⟩
      · refine ⟨_, rfl, ret ?_ H2 s1⟩
        rw [look, show letterOf m (ds.getD i .none) = false by simpa using e, Bool.false_and]
      have e' : letterOf m (ds.getD i .none) = true := by simpa using e
      obtain ⟨l, hl, _⟩ := letterOf_inv e'
      rw [hl] at hv
      obtain ⟨q, ws, eq, hq, hw⟩ := Dq.tup_inv hv
      rw [eq] at at_ hv
      cases hw with | @cons va _ _ _ qa r1 =>
      cases r1 with | @cons vb _ _ _ qb r2 =>
      cases r2 with | @cons vc _ _ _ qc r3 =>
      cases r3
      obtain rfl := Dq.int_inv qc
      have bl : beatOf (ds.getD i .none) = l.2.2 := by rw [hl]; rfl
      have third : ∀ Q2 : Bool → Hp → Prop, (∀ H3, Same H2 H3 → Q2 ((ds.take i).any fun z => PyData.eqv z (ds.getD i .none)) H3) →
          tTest (tOp (rInT K false) (tOp (rIxT K) (tVar 1) (tVar 2)) (tSl (rSlT K) (tVar 1) tNoPart (tPart (tVar 2)))) [some (.int m), some (.ref p), some (.int (0 + ((i : Nat) : Int)))] H2 Q2 := fun Q2 k2 => by
        obtain ⟨ls, hls⟩ : ∃ ls : List (Int × Int × Int), ds.take i = ls.map mkL := letters_inv fun d hd => by
          obtain ⟨k, hk⟩ := List.mem_iff_getElem?.mp hd
          have hk1 : k < i := by
            have z := (List.getElem?_eq_some_iff.mp hk).1
            rw [List.length_take] at z
            omega
          rw [List.getElem?_take_of_lt hk1, getD_at (by omega : k < ds.length)] at hk
          obtain rfl := Option.some.inj hk
          exact okAt_letter (hok k hk1)
        have cut : cutV us none (some (0 + ((i : Nat) : Int))) = us.take i := by
          unfold cutV
          rw [Int.zero_add, HT.sIx_none, HT.sIx_nat, List.drop_zero, Nat.sub_zero, Nat.min_eq_left (by omega)]
        refine ⟨_, rfl, _, rfl, p, us, _, _, rfl, rfl, st_of hp2, at_, _, rfl, _, rfl, _, rfl, p, us, rfl, st_of hp2, ?_, fun p2 n2 => ?_⟩
        · rw [HT.sIx_none, Int.zero_add, HT.sIx_nat]
          omega
        rw [cut]
        have s3 : Same H2 (upd H2 p2 (HO.tup (us.take i))) := same_new n2
        have t1 : Dp K (upd H2 p2 (HO.tup (us.take i))) (V.ref q) (mkL l) := dq_dp _ _ (mkL_plain l) (Dq.same s3 _ _ hv)
        have t2 : Dp K (upd H2 p2 (HO.tup (us.take i))) (V.ref p2) (.tuple (ls.map mkL)) := dq_dp _ _ (mkLs_plain ls) (by
          rw [← hls]
          exact .tup upd_same (DqAll.same (s1.trans s3) _ _ (DqAll.take i hr')))
        refine ⟨_, _, t1, t2, mkL_shaped l, mkLs_shaped ls, _, rfl, ?_⟩
        have z := k2 _ s3
        rw [hls, hl] at z
        simpa using z
      have fin : ∀ b, (decide (0 < i) && decide (beatOf (ds.getD i .none) < beatOf (ds.getD (i - 1) .none))) = false → ((ds.take i).any fun z => PyData.eqv z (ds.getD i .none)) = b → okAt m ds i = !b := fun b h1 h2 => by
        rw [look, e', h1, h2]
        rfl
      have go3 : (decide (0 < i) && decide (beatOf (ds.getD i .none) < beatOf (ds.getD (i - 1) .none))) = false → ∀ (A B : Hp → Prop), (okAt m ds i = false → ∀ H3, Same H2 H3 → A H3) → (okAt m ds i = true → ∀ H3, Same H2 H3 → B H3) →
          tTest (tOp (rInT K false) (tOp (rIxT K) (tVar 1) (tVar 2)) (tSl (rSlT K) (tVar 1) tNoPart (tPart (tVar 2)))) [some (.int m), some (.ref p), some (.int (0 + ((i : Nat) : Int)))] H2 (fun b H3 => if b = true then A H3 else B H3) := fun low A B ha hb => third _ fun H3 s3 => ite2 (fun c => ha (by rw [fin _ low rfl, c]; rfl) H3 s3) (fun c => hb (by rw [fin _ low rfl, Bool.eq_false_iff.mpr c]; rfl) H3 s3)
      have stay : okAt m ds i = true → ∀ j, j < i + 1 → okAt m ds j = true := fun g j hj => by
        by_cases ej : j = i
        · rw [ej]
          exact g
        · exact hok j (by omega)
      refine ⟨_, rfl, _, _, rfl, rfl, _, rfl, ite2 (fun e1 => ?_) (fun e1 => ?_)⟩
      · have i0 : 0 < i := by
          have z := of_decide_eq_true e1
          omega
        obtain ⟨l', hl', _⟩ := letterOf_inv (okAt_letter (hok (i - 1) (by omega)))
        have hj : i - 1 < ds.length := by omega
        have ej : us[i - 1]? = some us[i - 1] := List.getElem?_eq_getElem (by omega)
        have hv' : Dq H2 us[i - 1] (mkL l') := by
          rw [← hl']
          exact Dq.same s1 _ _ (DqAll.at hr' ej (getD_at hj))
        obtain ⟨q', ws', eq', hq', hw'⟩ := Dq.tup_inv hv'
        rw [eq'] at ej
        cases hw' with | @cons va' _ _ _ qa' r1' =>
        cases r1' with | @cons vb' _ _ _ qb' r2' =>
        cases r2' with | @cons vc' _ _ _ qc' r3' =>
        cases r3'
        obtain rfl := Dq.int_inv qc'
        have bl' : beatOf (ds.getD (i - 1) .none) = l'.2.2 := by rw [hl']; rfl
        have at' : atI us (0 + ((i : Nat) : Int) - 1) = some (.ref q') := by
          have z : (0 + ((i : Nat) : Int) - 1) = ((i - 1 : Nat) : Int) := by omega
          rw [z]
          exact atI_nat ej
        refine ⟨_, rfl, _, rfl, p, us, _, _, rfl, rfl, st_of hp2, at_, q, _, 2, _, rfl, rfl, st_of hq, rfl, _, rfl, _, rfl, _, _, rfl, rfl, p, us, _, _, rfl, rfl, st_of hp2, at', q', _, 2, _, rfl, rfl, st_of hq', rfl, _, _, rfl, rfl, _, rfl, ite2 (fun e2 => ?_) (fun e2 => ?_)⟩
        · refine iteT ⟨_, rfl, ret ?_ H2 s1⟩
          have z : (decide (0 < i) && decide (beatOf (ds.getD i .none) < beatOf (ds.getD (i - 1) .none))) = true := by
            rw [decide_eq_true i0, bl, bl', Bool.true_and]
            exact e2
          rw [look, e', z]
          simp
        · refine go3 ?_ _ _ (fun bad H3 s3 => ⟨_, rfl, ret bad H3 (s1.trans s3)⟩) (fun g H3 s3 => ⟨s1.trans s3, ⟨_, rfl⟩, stay g⟩)
          rw [decide_eq_true i0, bl, bl', Bool.true_and]
          simpa using e2
      · refine go3 ?_ _ _ (fun bad H3 s3 => ⟨_, rfl, ret bad H3 (s1.trans s3)⟩) (fun g H3 s3 => ⟨s1.trans s3, ⟨_, rfl⟩, stay g⟩)
        have z : decide (0 < i) = false := by
          refine decide_eq_false fun z => e1 (decide_eq_true ?_)
          omega
        rw [z, Bool.false_and]
    · obtain ⟨s', _, good⟩ := pr
      have z : partV (.int m) (.tuple ds) = .str "let" := by
        rw [pv_, firstBad_none fun i hi => good i (by omega)]
        rfl
      rw [← z]
      exact hQ H' s'
end
end K08

set_option maxHeartbeats 4000000
namespace K08
open PySem PySem.Spec PyProof.Rows L2 V1 V2
open Evl (pss_cut tCut sq_of st_of)
/-- ints, texts, tuples of such, so deep -/
def flatD : Nat → PyData → Bool
  | _, .int _ => true
  | _, .str _ => true
  | n + 1, .tuple ds => decide (ds.length ≤ 900) && ds.all (flatD n)
  | _, _ => false
def spIs : Nat → Sp
  | 0 => fun _ _ _ _ => False
  | n + 1 => fun vs H Q _ => ∃ v u d, vs = [v, u] ∧ Dq H v d ∧ Dq H u d ∧ flatD n d = true ∧ ∀ H', Same H H' → Q (.bl true) H'
theorem scIs : FnScope ["told", "due", "k"] ["told", "due"] (defScope s__law_is) := ⟨rfl, rfl, rfl, by decide +kernel, rfl, by decide +kernel, by decide +kernel⟩
def deepD (kind : Int) : Nat → PyData
  | 0 => .none
  | n + 1 => if kind = 0 then .list [deepD kind n] else .tuple [deepD kind n]
def spDeep : Sp := fun vs H Q _ => ∃ k, vs = [.int k] ∧ ∀ v H', Same H H' → Dq (newH H H') v (deepD k 36) → Q v H'
theorem scDeep : FnScope ["kind", "found", "turn"] ["kind"] (defScope s__law_deep) := ⟨rfl, rfl, rfl, by decide +kernel, rfl, by decide +kernel, by decide +kernel⟩
section
variable {P : Program} {w : World} {K : PySem.W.Frag} {mg : Str → Option Value} {base : Heap}
theorem ok_deep (T : Tx K mg) : Has P w K mg base CX0 1 "_law_deep" ["kind"] spDeep := by
  obtain ⟨fd, F⟩ := T.c.def_ 18 (d := d__law_deep) rfl
  refine ⟨fd, F.ok scDeep (fun vs H Q E h => ?_) (fun cdv A outer s H vs Q E hr h => ?_), FunD.bindsN F fun _ _ _ _ _ _ us hl => match us, hl with | [_], _ => rfl, F.kp, (T.glo 31 rfl)⟩
  · obtain ⟨k, rfl, _⟩ := h
    rfl
  · refine ⟨_, PSs.nox (pss_cons (ps_set (i := 1) scDeep.nd rfl (Or.inl rfl) pe_non)
 (pss_cons (ps_for PassesOwn.never rfl (pi_range1 (by rfl) (T.free 53 rfl) (pa_cons pe_int pa_nil)) (pg_name (i := 2) scDeep.nd rfl (Or.inl rfl))
 (pss_one (ps_set (i := 1) scDeep.nd rfl (Or.inl rfl) (pe_ifExp (pt_cmpR op_eq (pv 0) pe_int (nomark _)) (pe_lstS (pa_cons (pv 1) pa_nil)) (pe_tup (pa_cons (pv 1) pa_nil))))))
 (pss_one (ps_ret (pv 1))))), ?_⟩
    obtain ⟨k, rfl, hQ⟩ := h
    refine ⟨36, rfl, by decide, by decide, for_it (walk_range (lo := 0) (n := 36)) (fun i σ H' => Same H H' ∧ ∃ v o, σ = [some (.int k), some v, o] ∧ Dq (newH H H') v (deepD k i)) ⟨Same.refl H, _, _, rfl, .non⟩ (fun _ _ _ _ _ => True.intro) ?_ (fun σ H' ⟨s', v, o, e, q⟩ => by subst e; exact ⟨_, rfl, hQ v H' s' q⟩)⟩
    rintro i x σ H1 H2 hi ⟨s1, v, o, rfl, q⟩ ⟨rfl, rfl⟩
    refine ⟨_, rfl, rfl, _, rfl, ite2 (fun e => ?_) (fun e => ?_)⟩
    · have z : deepD k (i + 1) = .list [deepD k i] := by
        have e' : k = 0 := by simpa [dec_int] using e
        show (if k = 0 then _ else _) = _
        rw [if_pos e']
      refine ⟨_, rfl, (by show 1 ≤ sizeLine; decide), fun p np low => ⟨s1.trans (same_new np), _, _, rfl, ?_⟩⟩
      rw [z]
      exact .lst (by rw [newH_at (fresh_up s1 np)]; exact upd_same) low (.cons (Dq.same (newH_up (same_new np)) _ _ q) .nil)
    · have z : deepD k (i + 1) = .tuple [deepD k i] := by
        have e' : ¬ k = 0 := by simpa [dec_int] using e
        show (if k = 0 then _ else _) = _
        rw [if_neg e']
      refine ⟨_, rfl, (by show 1 ≤ sizeLine; decide), fun p np => ⟨s1.trans (same_new np), _, _, rfl, ?_⟩⟩
      rw [z]
      exact .tup (by rw [newH_at (fresh_up s1 np)]; exact upd_same) (.cons (Dq.same (newH_up (same_new np)) _ _ q) .nil)
theorem ok_is (T : Tx K mg) : ∀ n : Nat, Has P w K mg base CX0 (n + 1) "_law_is" ["told", "due"] (spIs n)
  | 0 => by
    obtain ⟨fd, F⟩ := T.c.def_ 16 (d := d__law_is) rfl
    exact ⟨fd, ⟨fun _ _ _ _ h => h.elim, fun _ _ _ _ _ _ _ _ _ _ _ _ _ h => h.elim⟩, FunD.bindsN F fun _ _ _ _ _ _ us hl => match us, hl with | [_, _], _ => rfl, F.kp, (T.glo 29 rfl)⟩
  | n + 1 => by
    obtain ⟨fd, F⟩ := T.c.def_ 16 (d := d__law_is) rfl
    have Hr := ok_is T n
    refine ⟨fd, F.ok scIs (fun vs H Q E h => ?_) (fun cdv A outer s H vs Q E hr h => ?_), FunD.bindsN F fun _ _ _ _ _ _ us hl => match us, hl with | [_, _], _ => rfl, F.kp, (T.glo 29 rfl)⟩
    · obtain ⟨v, u, d, rfl, _⟩ := h
      rfl
    · refine ⟨_, PSs.nox (pss_cons (ps_if (pt_val (pe_callB call_isiT (by rfl) (T.free 48 rfl) (by decide +kernel) (pa_cons (pv 1) (pa_cons (pe_tup (pa_cons (pe_bltn (v := .ty "tuple") (by rfl) (T.free 55 rfl) (by decide +kernel) rfl) (pa_cons (pe_bltn (v := .ty "list") (by rfl) (T.free 50 rfl) (by decide +kernel) rfl) pa_nil))) pa_nil))))
 (pss_cons (ps_if (PW.pt (pw_or (pt_cmpR op_ne (pe_callB call_isi (by rfl) (T.free 48 rfl) (by decide +kernel) (pa_cons (pv 0) (pa_cons (pe_bltn (v := .ty "tuple") (by rfl) (T.free 55 rfl) (by decide +kernel) rfl) pa_nil))) (pe_callB call_isi (by rfl) (T.free 48 rfl) (by decide +kernel) (pa_cons (pv 1) (pa_cons (pe_bltn (v := .ty "tuple") (by rfl) (T.free 55 rfl) (by decide +kernel) rfl) pa_nil))) (nomark _)) (pw_or1 (pt_cmpR op_ne (pe_callB call_isi (by rfl) (T.free 48 rfl) (by decide +kernel) (pa_cons (pv 0) (pa_cons (pe_bltn (v := .ty "list") (by rfl) (T.free 50 rfl) (by decide +kernel) rfl) pa_nil))) (pe_callB call_isi (by rfl) (T.free 48 rfl) (by decide +kernel) (pa_cons (pv 1) (pa_cons (pe_bltn (v := .ty "list") (by rfl) (T.free 50 rfl) (by decide +kernel) rfl) pa_nil))) (nomark _)))))
 (pss_one (ps_ret pe_bl))
 pss_nil)
 (pss_one (ps_ret (pe_and (pe_cmpR op_eq (pe_callB call_len (by rfl) (T.free 49 rfl) PySem.boot_len (pa_cons (pv 0) pa_nil)) (pe_callB call_len (by rfl) (T.free 49 rfl) PySem.boot_len (pa_cons (pv 1) pa_nil)) (nomark _)) (pe_one (pe_callB (cr_all rfl) (by rfl) (T.free 44 rfl) (by decide +kernel) (pa_cons (pe_lc (own := [("k", 2)]) (g := gName 2) (tt := tYes) (te := tCall (spIs n) [] (fun _ _ _ => False) (tCons (tOp (rIxT K) (tVar 0) (tVar 2)) (tCons (tOp (rIxT K) (tVar 1) (tVar 2)) tNil))) (by rfl) scIs.nd (pi_range1 (by rfl) (T.free 53 rfl) (pa_cons (pe_callB call_len (by rfl) (T.free 49 rfl) PySem.boot_len (pa_cons (pv 1) pa_nil)) pa_nil))
 (blkOk_by (own := [("k", 2)]) (N := ["told", "due", "k"]) (sc := defScope s__law_is) (by decide +kernel)) (fun _ _ _ _ _ => pg_name (i := 2) scIs.nd rfl (Or.inl rfl)) (fun _ _ _ _ _ => pts_nil) (fun _ _ _ _ _ => (pe_has Hr (hr) pass0 (pa_cons (pe_ix ix_tup (pv 0) (pv 2) (fun _ _ => rfl)) (pa_cons (pe_ix ix_tup (pv 1) (pv 2) (fun _ _ => rfl)) pa_nil))))) pa_nil)))))))
 pss_nil)
 (pss_cons (ps_if (PW.pt (pw_or (pt_cmpR op_isN (pv 1) pe_non (nomark _)) (pw_or1 (pt_cmpR op_isN (pv 0) pe_non (nomark _)))))
 (pss_one (ps_ret (pe_and (pe_cmpR op_isN (pv 1) pe_non (nomark _)) (pe_one (pe_cmpR op_isN (pv 0) pe_non (nomark _))))))
 pss_nil)
 (pss_cons (ps_if (PW.pt (pw_or (pt_cmpR op_ne (pe_callB call_isi (by rfl) (T.free 48 rfl) (by decide +kernel) (pa_cons (pv 0) (pa_cons (pe_bltn (v := .ty "bool") (by rfl) (T.free 45 rfl) (by decide +kernel) rfl) pa_nil))) (pe_callB call_isi (by rfl) (T.free 48 rfl) (by decide +kernel) (pa_cons (pv 1) (pa_cons (pe_bltn (v := .ty "bool") (by rfl) (T.free 45 rfl) (by decide +kernel) rfl) pa_nil))) (nomark _)) (pw_or1 (pt_cmpR op_ne (pe_callB call_isi (by rfl) (T.free 48 rfl) (by decide +kernel) (pa_cons (pv 0) (pa_cons (pe_bltn (v := .ty "int") (by rfl) (T.free 47 rfl) (by decide +kernel) rfl) pa_nil))) (pe_callB call_isi (by rfl) (T.free 48 rfl) (by decide +kernel) (pa_cons (pv 1) (pa_cons (pe_bltn (v := .ty "int") (by rfl) (T.free 47 rfl) (by decide +kernel) rfl) pa_nil))) (nomark _)))))
 (pss_one (ps_ret pe_bl))
 pss_nil)
 (pss_one (ps_ret (pe_and (pe_cmpR op_eq (pe_callB call_isi (by rfl) (T.free 48 rfl) (by decide +kernel) (pa_cons (pv 0) (pa_cons (pe_bltn (v := .ty "str") (by rfl) (T.free 54 rfl) (by decide +kernel) rfl) pa_nil))) (pe_callB call_isi (by rfl) (T.free 48 rfl) (by decide +kernel) (pa_cons (pv 1) (pa_cons (pe_bltn (v := .ty "str") (by rfl) (T.free 54 rfl) (by decide +kernel) rfl) pa_nil))) (nomark _)) (pe_one (pe_cmpR op_eq (pv 0) (pv 1) (nomark _))))))))), ?_⟩
      obtain ⟨v, u, d, rfl, hv, hu, fl, hQ⟩ := h
      refine isiT_go (kit_tl d) (fun Q q => ⟨u, rfl, q⟩) hu fun p np => ⟨_, rfl, ?_⟩
      have s1 := same_new (o := HO.tup [.ty "tuple", .ty "list"]) np
      have hv1 := Dq.same s1 _ _ hv
      have hu1 := Dq.same s1 _ _ hu
      generalize upd H p (HO.tup [.ty "tuple", .ty "list"]) = H1 at s1 hv1 hu1
      cases d with
      | int i =>
        obtain rfl := Dq.int_inv hv1
        obtain rfl := Dq.int_inv hu1
        refine iteF ⟨_, rfl, rfl, false, rfl, iteF ⟨_, rfl, rfl, false, rfl, iteF ?_⟩⟩
        refine ⟨_, rfl, _, .ty "bool", _, _, _, rfl, .ty "bool", dq_ty hv1, kit_ty (kit_bool _), _, rfl, _, .ty "bool", _, _, _, rfl, .ty "bool", dq_ty hu1, kit_ty (kit_bool _), rfl, false, rfl, iteF ?_⟩
        refine isi_go (kit_int _) (fun Q q => ⟨_, rfl, q⟩) hv1 (isi_go (kit_int _) (fun Q q => ⟨_, rfl, q⟩) hu1 ⟨rfl, false, rfl, iteF ?_⟩)
        refine ⟨_, rfl, _, .ty "str", _, _, _, rfl, .ty "str", dq_ty hv1, kit_ty (kit_str _), _, rfl, _, .ty "str", _, _, _, rfl, .ty "str", dq_ty hu1, kit_ty (kit_str _), rfl, true, rfl, iteT ?_⟩
        refine ⟨_, rfl, _, rfl, rfl, ?_⟩
        have z : decide (V.int i = V.int i) = true := decide_eq_true rfl
        rw [z]
        exact hQ _ s1
      | str i =>
        cases hv1
        cases hu1
        refine iteF ⟨_, rfl, rfl, false, rfl, iteF ⟨_, rfl, rfl, false, rfl, iteF ?_⟩⟩
        have hs : ∀ H, Dq H (V.str i) (.str i) := fun H => .str i
        refine ⟨_, rfl, _, .ty "bool", _, _, _, rfl, .ty "bool", dq_ty (hs _), kit_ty (kit_bool _), _, rfl, _, .ty "bool", _, _, _, rfl, .ty "bool", dq_ty (hs _), kit_ty (kit_bool _), rfl, false, rfl, iteF ?_⟩
        refine isi_go (kit_int _) (fun Q q => ⟨_, rfl, q⟩) (.str i) (isi_go (kit_int _) (fun Q q => ⟨_, rfl, q⟩) (.str i) ⟨rfl, false, rfl, iteF ?_⟩)
        refine ⟨_, rfl, _, .ty "str", _, _, _, rfl, .ty "str", dq_ty (hs _), kit_ty (kit_str _), _, rfl, _, .ty "str", _, _, _, rfl, .ty "str", dq_ty (hs _), kit_ty (kit_str _), rfl, true, rfl, iteT ?_⟩
        refine ⟨_, rfl, _, rfl, rfl, ?_⟩
        have z : decide (V.str i = V.str i) = true := decide_eq_true rfl
        rw [z]
        exact hQ _ s1
      | tuple ds =>
        refine iteT ?_
        refine isi_go (kit_tup _) (fun Q q => ⟨_, rfl, q⟩) hv1 (isi_go (kit_tup _) (fun Q q => ⟨_, rfl, q⟩) hu1 ⟨rfl, false, rfl, iteF ?_⟩)
        refine isi_go (kit_lst _) (fun Q q => ⟨_, rfl, q⟩) hv1 (isi_go (kit_lst _) (fun Q q => ⟨_, rfl, q⟩) hu1 ⟨rfl, false, rfl, iteF ?_⟩)
        obtain ⟨a, vs, rfl, ha, ra⟩ := Dq.tup_inv hv1
        obtain ⟨b, us, rfl, hb, rb⟩ := Dq.tup_inv hu1
        have la := dqAll_len ra
        have lb := dqAll_len rb
        cases n with
        | zero => cases fl
        | succ n =>
        have fl' : ds.length ≤ 900 ∧ ∀ x ∈ ds, flatD n x = true := by simpa [flatD] using fl
        refine ⟨_, rfl, _, _, rfl, .inr ⟨vs, st_of ha, rfl⟩, _, rfl, _, _, rfl, .inr ⟨us, st_of hb, rfl⟩, rfl, true, by rw [la, lb]; simp, iteT ?_⟩
        refine ⟨_, rfl, _, _, rfl, .inr ⟨us, st_of hb, rfl⟩, us.length, rfl, by omega, by omega, fun D nD => ?_⟩
        rw [Int.toNat_natCast]
        refine lc_gen (σ := [some (.ref a), some (.ref b), none]) (vs := [2]) (walk_range (lo := 0) (n := us.length)) nD (fun i acc H' => Same H1 H' ∧ acc = List.replicate i (.bl true)) ⟨Same.refl _, rfl⟩ (fun _ _ _ _ _ => True.intro) ?_ ?_
        · rintro i acc x H2 H3 hi l e ⟨sm, rfl⟩ ⟨rfl, rfl⟩
          have hi' : i < ds.length := by omega
          have va : vs[i]? = some vs[i] := List.getElem?_eq_getElem (by omega)
          have ub : us[i]? = some us[i] := List.getElem?_eq_getElem (by omega)
          have di : ds[i]? = some ds[i] := List.getElem?_eq_getElem hi'
          have sm' : Same H1 H3 := fun b o ob => same_delH _ _ (sm _ _ ob)
          have at1 : atI vs (0 + ((i : Nat) : Int)) = some vs[i] := by rw [Int.zero_add]; exact atI_nat va
          have at2 : atI us (0 + ((i : Nat) : Int)) = some us[i] := by rw [Int.zero_add]; exact atI_nat ub
          refine ⟨rfl, ?_⟩
          simp only [tYes, if_true]
          refine ⟨_, rfl, _, rfl, a, vs, _, _, rfl, rfl, st_of (sm' _ _ ha), at1, _, rfl, _, rfl, b, us, _, _, rfl, rfl, st_of (sm' _ _ hb), at2, _, _, ds[i], rfl, Dq.same sm' _ _ (DqAll.at ra va di), Dq.same sm' _ _ (DqAll.at rb ub di), fl'.2 _ (List.getElem_mem hi'), fun H4 s4 => ?_⟩
          refine lc_put l (by omega) (s4 _ _ e) ⟨fun b o ob => same_del s4 _ _ (sm _ _ ob), ?_⟩
          rw [List.replicate_succ']
        · rintro acc H2 l e ⟨sm, rfl⟩
          refine ⟨D, List.replicate us.length true, rfl, sq_of (by rw [List.map_replicate]; exact e), ?_⟩
          have z : (List.replicate us.length true).all id = true := by simp
          rw [z]
          exact hQ H2 (s1.trans fun b o ob => same_delH _ _ (sm _ _ ob))
      | _ => cases n <;> cases fl
end
end K08

set_option maxHeartbeats 4000000
namespace K08
open PySem PySem.Spec PyProof.Rows L2 V1 V2
open Evl (pss_cut tCut sq_of st_of)
def spMade : Sp := fun vs H Q _ => ∃ v1 v2 d1 d2, vs = [v1, v2] ∧ Dq H v1 d1 ∧ Dq H v2 d2 ∧ ∀ H', Same H H' → Q (partV d1 d2) H'
theorem scMade : FnScope ["many", "letters", "made", "e"] ["many", "letters"] (defScope s__law_made) := ⟨rfl, rfl, rfl, by decide +kernel, rfl, by decide +kernel, by decide +kernel⟩
def clM (K : PySem.W.Frag) : Addr → Value → Option Addr → TS := fun a cls d => tRet (tIf (tAnd (tB (tCB (rIsXd K a (He.ga K "BadSchedule") cls d) (tCons (tVar 3) (tCons (tC (.ref (He.ga K "TalkError"))) tNil)))) (tB (tCB (rIsXd K a (He.ga K "BadSchedule") cls d) (tCons (tVar 3) (tCons (tC (.ty "ValueError")) tNil)))))
  (tXf a cls d (He.ga K "BadSchedule") "part" (tVar 3)) (tC (.str "other")))
theorem flat_mkLs {ls : List Lt3} (h : ls.length ≤ 900) : flatD 2 (.tuple (ls.map mkL)) = true := by
  simp only [flatD, List.length_map, Bool.and_eq_true, decide_eq_true_eq, List.all_eq_true]
  refine ⟨h, fun x hx => ?_⟩
  obtain ⟨l, _, rfl⟩ := List.mem_map.mp hx
  simp [mkL, flatD]
section
variable {P : Program} {w : World} {K : PySem.W.Frag} {mg : Str → Option Value} {base : Heap}
theorem Tx.xf (T : Tx K mg) (i : Nat) {x : Str} (h : errs[i]? = some x) : XfC K (He.ga K x) := by
  have E := T.one i h
  exact ⟨E.ga, E.gg, by rw [E.sub]; rfl, E.hasDict⟩
theorem sched_fin {H : Hp} {Qa : Addr → Hp → Prop} {E : XK} {v1 v2 : V} {d1 d2 : PyData} {K : PySem.W.Frag} (h1 : Dq H v1 d1) (h2 : Dq H v2 d2)
    (bad : ∀ x, partOf d1 d2 = some x → ∀ d H', H d = none → Same H H' → H' d = some (.xd [("part", x)]) → E (.ref (He.ga K "BadSchedule")) (some d) H')
    (good : partOf d1 d2 = none → ∀ p dx H', Same H H' → H p = none → H' p = some (mkS K dx v1 v2) → Qa p H') :
    ∀ p dx, H p = none → H dx = none → dx ≠ p → spInit K [.ref p, v1, v2] (upd (upd H dx (.own p)) p (.ins (He.ga K "Schedule") dx [])) (fun v H2 => v = .non ∧ Qa p H2) E :=
  fun p dx np nd ne => by
  have sm : Same H (upd (upd H dx (.own p)) p (.ins (He.ga K "Schedule") dx [])) := fun b o e => by
    rw [upd_ne (ne_of_none e np), upd_ne (ne_of_none e nd)]
    exact e
  refine ⟨p, dx, v1, v2, d1, d2, rfl, upd_same, Dq.same sm _ _ h1, Dq.same sm _ _ h2, fun x hx d H' nd' s' hd => bad x hx d H' (fresh_up sm nd') (sm.trans s') hd, fun hx H' st hp => ⟨rfl, good hx p dx H' (fun b o e => ?_) np hp⟩⟩
  exact st b o (ne_of_none e np) (sm _ _ e)
theorem ok_made (T : Tx K mg) : Has P w K mg base CX0 8 "_law_made" ["many", "letters"] spMade := by
  obtain ⟨fd, F⟩ := T.c.def_ 24 (d := d__law_made) rfl
  have Hs := ok_init (P := P) (w := w) (base := base) T
  have His := ok_is (P := P) (w := w) (base := base) T 3
  refine ⟨fd, F.ok scMade (fun vs H Q E h => ?_) (fun cdv A outer s H vs Q E hr h => ?_), FunD.bindsN F fun _ _ _ _ _ _ us hl => match us, hl with | [_, _], _ => rfl, F.kp, (T.glo 37 rfl)⟩
  · obtain ⟨v1, v2, d1, d2, rfl, _⟩ := h
    rfl
  · refine ⟨_, PSs.nox (pss_cons (ps_try_cl (tb := fun W => tAsg (tMakeS (He.ga K "Schedule") (spInit K) (WE W) (tCons (tVar 0) (tCons (tVar 1) tNil))) (gName 2)) (Wout := fun _ _ _ _ => False) (l := [(.ref (He.ga K "BadSchedule"), some 3, clM K)]) rfl rfl scMade.nd takes0
 (fun W pn xe tk _ => pss_one (ps_set (i := 2) scMade.nd rfl (Or.inl rfl) (by exact (pe_hasCS Hs (hr.mono (by decide)) (fun σ => passAt tk σ) (by exact (pa_cons (pv 0) (pa_cons (pv 1) pa_nil)))))))
 (.named (i := 3) (c := .ref (He.ga K "BadSchedule")) (ts := clM K) rfl rfl ⟨rfl, by decide, .inl (T.glo 6 rfl)⟩ (fun a oe cls d pn hz hf => pss_one (ps_ret (pe_ifExp (PW.pt (pw_and (pt_val (pe_callB (call_isXd (T.one 0 rfl) T.exs.2.2.2 rfl rfl hz hf) (by rfl) (T.free 48 rfl) (by decide +kernel) (pa_cons (pv 3) (pa_cons (pe_glob (v := .ref (He.ga K "TalkError")) (by rfl) (T.glo 5 rfl) rfl) pa_nil)))) (pw_and1 (pt_val (pe_callB (call_isXd (T.one 0 rfl) T.exs.2.2.2 rfl rfl hz hf) (by rfl) (T.free 48 rfl) (by decide +kernel) (pa_cons (pv 3) (pa_cons (pe_bltn (v := .ty "ValueError") (by rfl) (T.free 42 rfl) (by decide +kernel) rfl) pa_nil))))))) (pe_xf (T.xf 0 rfl) (T.noat 58 rfl) hz hf (pv 3)) pe_str))) .nil))
 (pss_one (ps_ret (pe_ifExp (PW.pt (pw_and (pt_val (pe_has His (hr.mono (by decide)) pass0 (pa_cons (L2.pe_fld (pv 2) (by rfl)) (pa_cons (pv 0) pa_nil)))) (pw_and1 (pt_val (pe_has His (hr.mono (by decide)) pass0 (pa_cons (L2.pe_fld (pv 2) (by rfl)) (pa_cons (pv 1) pa_nil))))))) pe_str pe_str)))), ?_⟩
    obtain ⟨v1, v2, d1, d2, rfl, h1, h2, hQ⟩ := h
    refine ⟨_, rfl, _, rfl, ?_⟩
    refine sched_fin h1 h2 (fun x hx d H' nd sm hd => ?_) (fun hx p dx H' sm np e => ?_)
    · have E := T.one 0 (x := "BadSchedule") rfl
      have em : PySem.W.exmOne K (.ref (He.ga K "BadSchedule")) (.ref (He.ga K "BadSchedule")) = some true := by
        rw [E.exm E rfl, decide_eq_true rfl, Bool.true_or]
      have k1 : PySem.W.kitOne K (.ref (He.ga K "BadSchedule")) (.ref (He.ga K "TalkError")) = some true := by
        rw [E.kit T.exs.1, List.contains_cons]
        simp
      have k2 : PySem.W.kitOne K (.ref (He.ga K "BadSchedule")) (.type "ValueError") = some true := by
        rw [E.kitT (by decide +kernel), List.contains_cons]
        simp [veB]
      refine wCl_take em fun a na => ?_
      have pvx : partV d1 d2 = x := by
        unfold partV
        rw [hx]
        rfl
      refine ⟨_, rfl, rfl, .ref _, _, true, d, _, rfl, .own _, k1, rfl, hd, true, rfl, iteT ?_⟩
      refine ⟨_, rfl, rfl, .ty "ValueError", _, true, d, _, rfl, .ty _, k2, rfl, hd, true, rfl, iteT ?_⟩
      refine ⟨_, rfl, rfl, rfl, d, _, x, rfl, hd, (by simp [List.lookup]), ?_⟩
      rw [← pvx]
      exact hQ H' sm
    · obtain ⟨m, ls, rfl, rfl, g⟩ := good_part hx
      obtain rfl := Dq.int_inv h1
      have cS := T.insC.cl
      have h2' := Dq.same sm _ _ h2
      have pvl : partV (.int m) (.tuple (ls.map mkL)) = .str "let" := by
        unfold partV
        rw [hx]
        rfl
      refine ⟨_, rfl, p, _, dx, _, _, rfl, e, cS, T.no1, rfl, _, rfl, _, _, .int m, rfl, .int m, .int m, rfl, fun H2 s2 => ⟨true, rfl, iteT ?_⟩⟩
      refine ⟨_, rfl, p, _, dx, _, _, rfl, s2 _ _ e, cS, T.no2, rfl, _, rfl, _, _, .tuple (ls.map mkL), rfl, Dq.same s2 _ _ h2', Dq.same s2 _ _ h2', flat_mkLs (by have := g.len; omega), fun H3 s3 => ⟨true, rfl, iteT ?_⟩⟩
      rw [← pvl]
      exact hQ H3 ((sm.trans s2).trans s3)
end
end K08

set_option maxHeartbeats 4000000
namespace V2
open PySem PySem.Spec PyProof.Rows L2 V1
/-- a callee that raises nothing here -/
theorem passF {X : Cx} : Passes (L2.CX X.prog X.w) X (fun _ _ _ => False) := fun _ _ _ _ _ _ _ c => by
  obtain ⟨_, _, _, _, _, _, _, _, _, _, _, _, z⟩ := c
  exact z.elim
end V2
namespace K08
open PySem PySem.Spec PyProof.Rows L2 V1 V2
open Evl (pss_cut tCut sq_of st_of)
def spLines : Sp := fun vs H Q _ => ∃ n : Nat, vs = [.int n] ∧ n ≤ 60 ∧ ∀ H', Same H H' → Q (.bl true) H'
theorem scLines : FnScope ["n", "made", "rows", "beat", "k"] ["n"] (defScope s__law_lines) := ⟨rfl, rfl, rfl, by decide +kernel, rfl, by decide +kernel, by decide +kernel⟩
def rInt1 : List V → Hp → VK → Prop := fun xs H Q => (∃ i, xs = [.int i] ∧ Q (.int i) H) ∨ ∃ k, xs = [.bl k] ∧ Q (.int (if k then 1 else 0)) H
def teLines : TE := tTup (tCons (tOp rMod2 (tCB rInt1 (tCons (tVar 4) tNil)) (tC (.int 2))) (tCons (tOp rSub2 (tC (.int 1)) (tOp rMod2 (tCB rInt1 (tCons (tVar 4) tNil)) (tC (.int 2)))) (tCons (tVar 4) tNil)))
theorem netL_succ (ts : List (Int × Int)) (i : Nat) : netL ts (i + 1) = netL ts i ++ ts.flatMap fun t => [(t.1, t.2, (i : Int)), (t.2, t.1, (i : Int))] := by
  unfold netL
  rw [List.range_succ, List.flatMap_append, List.flatMap_cons, List.flatMap_nil, List.append_nil]
/-- rows + [a pair of letters], the rows a list of letters -/
theorem cat2 {H : Hp} {Q : VK} {q p1 p2 p3 : Addr} {acc : List V} {ls : List Lt3} {a b c d e f : Int} (n1 : H p1 = none) (n2 : (upd H p1 (.tup [.int a, .int b, .int c])) p2 = none) (n3 : (upd (upd H p1 (.tup [.int a, .int b, .int c])) p2 (.tup [.int d, .int e, .int f])) p3 = none)
    (hq : H q = some (.lst acc)) (dq : DqAll H acc (ls.map mkL)) (hl : ls.length ≤ 900)
    (k : ∀ r acc' H', Same H H' → H' r = some (.lst acc') → DqAll H' acc' ((ls ++ [(a, b, c), (d, e, f)]).map mkL) → Q (.ref r) H') :
    rCat (.ref q) (.ref p3) (upd (upd (upd H p1 (.tup [.int a, .int b, .int c])) p2 (.tup [.int d, .int e, .int f])) p3 (.lst [.ref p1, .ref p2])) Q := by
  have s1 := same_new (o := HO.tup [.int a, .int b, .int c]) n1
  have s2 := same_new (o := HO.tup [.int d, .int e, .int f]) n2
  have s3 := same_new (o := HO.lst [.ref p1, .ref p2]) n3
  have s := (s1.trans s2).trans s3
  have la : acc.length = ls.length := by rw [dqAll_len dq, List.length_map]
  refine cat_go (s _ _ hq) upd_same (by rw [la]; show ls.length + 2 ≤ 1000; omega) fun r H' s' nr hr => ?_
  refine k r _ H' (s.trans s') hr ?_
  rw [List.map_append]
  refine DqAll.app (DqAll.same (s.trans s') _ _ dq) (.cons (Dq.same (s2.trans (s3.trans s')) _ _ (.tup upd_same (.cons (.int _) (.cons (.int _) (.cons (.int _) .nil))))) (.cons (Dq.same (s3.trans s') _ _ (.tup upd_same (.cons (.int _) (.cons (.int _) (.cons (.int _) .nil))))) .nil))
section
variable {P : Program} {w : World} {K : PySem.W.Frag} {mg : Str → Option Value} {base : Heap}
theorem ok_lines (T : Tx K mg) : Has P w K mg base CX0 10 "_law_lines" ["n"] spLines := by
  obtain ⟨fd, F⟩ := T.c.def_ 26 (d := d__law_lines) rfl
  have Ht := ok_turns (P := P) (w := w) (base := base) T
  have Hb := ok_both (P := P) (w := w) (base := base) T
  have His := ok_is (P := P) (w := w) (base := base) T 3
  refine ⟨fd, F.ok scLines (fun vs H Q E h => ?_) (fun cdv A outer s H vs Q E hr h => ?_), FunD.bindsN F fun _ _ _ _ _ _ us hl => match us, hl with | [_], _ => rfl, F.kp, (T.glo 39 rfl)⟩
  · obtain ⟨n, rfl, _⟩ := h
    rfl
  · refine ⟨_, PSs.nox (pss_cons (ps_set (i := 1) scLines.nd rfl (Or.inl rfl) (pe_has Ht (hr.mono (by decide)) passF (pa_cons (pv 0) pa_nil)))
 (pss_cons (ps_if (PW.pt (pw_or (pt_not (pt_val (pe_has His (hr.mono (by decide)) pass0 (pa_cons (L2.pe_fld (pv 1) (by rfl)) (pa_cons (pe_callTy call_tuple_of (by rfl) (T.free 55 rfl) (by decide +kernel) (pa_cons (pe_lc (own := [("k", 4)]) (g := gName 4) (tt := tYes) (te := teLines) (by rfl) scLines.nd (pi_range1 (by rfl) (T.free 53 rfl) (pa_cons (pv 0) pa_nil))
 (blkOk_by (own := [("k", 4)]) (N := ["n", "made", "rows", "beat", "k"]) (sc := defScope s__law_lines) (by decide +kernel)) (fun _ _ _ _ _ => pg_name (i := 4) scLines.nd rfl (Or.inl rfl)) (fun _ _ _ _ _ => pts_nil) (fun _ _ _ _ _ => (pe_tup (pa_cons (pe_op op_mod (pe_callTy call_int1 (by rfl) (T.free 47 rfl) (by decide +kernel) (pa_cons (pv 4) pa_nil)) pe_int) (pa_cons (pe_op op_sub pe_int (pe_op op_mod (pe_callTy call_int1 (by rfl) (T.free 47 rfl) (by decide +kernel) (pa_cons (pv 4) pa_nil)) pe_int)) (pa_cons (pv 4) pa_nil)))))) pa_nil)) pa_nil))))) (pw_or1 (pt_cmpR op_ne (L2.pe_fld (pv 1) (by rfl)) pe_int (nomark _)))))
 (pss_one (ps_ret pe_bl))
 pss_nil)
 (pss_cons (ps_if (pt_cmpR op_gt (pv 0) pe_int (nomark _))
 (pss_one (ps_ret pe_bl))
 pss_nil)
 (pss_cons (ps_set (i := 2) scLines.nd rfl (Or.inl rfl) (pe_lstS pa_nil))
 (pss_cons (ps_for PassesOwn.never rfl (pi_range1 (by rfl) (T.free 53 rfl) (pa_cons (pv 0) pa_nil)) (pg_name (i := 3) scLines.nd rfl (Or.inl rfl))
 (pss_one (ps_set (i := 2) scLines.nd rfl (Or.inl rfl) (pe_op op_cat (pv 2) (pe_lstS (pa_cons (pe_tup (pa_cons pe_int (pa_cons pe_int (pa_cons (pv 3) pa_nil)))) (pa_cons (pe_tup (pa_cons pe_int (pa_cons pe_int (pa_cons (pv 3) pa_nil)))) pa_nil)))))))
 (pss_cons (ps_set (i := 1) scLines.nd rfl (Or.inl rfl) (pe_has Hb (hr.mono (by decide)) passF (pa_cons (pv 0) pa_nil)))
 (pss_one (ps_ret (pe_and (pe_has His (hr.mono (by decide)) pass0 (pa_cons (L2.pe_fld (pv 1) (by rfl)) (pa_cons (pe_callTy call_tuple_of (by rfl) (T.free 55 rfl) (by decide +kernel) (pa_cons (pv 2) pa_nil)) pa_nil))) (pe_one (pe_has His (hr.mono (by decide)) pass0 (pa_cons (L2.pe_fld (pv 1) (by rfl)) (pa_cons pe_int pa_nil))))))))))))), ?_⟩
    obtain ⟨n, rfl, hn, hQ⟩ := h
    have cS := T.insC.cl
    refine ⟨_, rfl, n, rfl, hn, fun p H1 s1 np at1 => ?_⟩
    obtain ⟨dx, v, e1, dv⟩ := at1
    refine ⟨_, rfl, p, _, dx, _, _, rfl, e1, cS, T.no2, rfl, _, rfl, n, rfl, by omega, by omega, fun D nD => ?_⟩
    rw [Int.toNat_natCast]
    refine lc_rows (K := K) (lo := 0) (n := n) (σ := [some (.int (n : Nat)), some (.ref p), none, none, none]) (vs := [4]) (i0 := 4) (by omega) (fun i => mkL ((0 + (i : Int)) % 2, 1 - (0 + (i : Int)) % 2, 0 + (i : Int))) nD (fun x => rfl) (fun i hi H2 sm hD Q1 k => ?_) (fun us H2 eD sm q => ?_)
    · exact ⟨_, rfl, .inl ⟨_, rfl, _, _, rfl, rfl, (by show (0 : Int) < 2; decide), _, rfl, .inl ⟨_, rfl, _, _, rfl, rfl, (by show (0 : Int) < 2; decide), _, _, rfl, rfl, _, rfl, mk3 hD k⟩⟩⟩
    · refine ⟨D, us, rfl, .inl ⟨sq_of eD, fun l nl => ?_⟩⟩
      have e : (List.range n).map (fun i : Nat => mkL ((0 + (i : Int)) % 2, 1 - (0 + (i : Int)) % 2, 0 + (i : Int))) = (turnsL n).map mkL := by
        unfold turnsL
        rw [List.map_map]
        refine List.map_congr_left fun i _ => ?_
        simp [Function.comp]
      rw [e] at q
      have s2 := sm.trans (same_new (o := HO.tup us) nl)
      refine ⟨v, _, _, rfl, Dq.same s2 _ _ dv, .tup upd_same (DqAll.same (same_new nl) _ _ q), flat_mkLs (by unfold turnsL; rw [List.length_map, List.length_range]; omega), fun H3 s3 => ⟨true, rfl, iteF ?_⟩⟩
      have s13 := s2.trans s3
      refine ⟨_, rfl, p, _, dx, _, _, rfl, s13 _ _ e1, cS, T.no1, rfl, rfl, false, rfl, iteF ?_⟩
      refine ⟨_, rfl, _, _, rfl, rfl, _, rfl, ite2 (fun big => ?_) (fun small => ?_)⟩
      · exact hQ H3 (s1.trans s13)
      have n30 : n ≤ 30 := by
        have z : ¬ ((30 : Int) < (n : Int)) := fun z => small (decide_eq_true z)
        omega
      refine ⟨by show 0 ≤ sizeLine; decide, fun q0 nq0 _ => ?_⟩
      refine ⟨_, rfl, n, rfl, by omega, by omega, ?_⟩
      rw [Int.toNat_natCast]
      refine for_it (walk_range (lo := 0) (n := n)) (fun i σ H' => Same H H' ∧ ∃ q acc o k0, σ = [some (.int (n : Nat)), some (.ref p), some (.ref q), o, k0] ∧ H' q = some (.lst acc) ∧ DqAll H' acc ((netL [(0, 1)] i).map mkL)) ⟨(s1.trans s13).trans (same_new nq0), _, _, _, _, rfl, upd_same, .nil⟩ (fun _ _ _ _ _ => True.intro) ?_ ?_
      · rintro i x σ H4 H5 hi ⟨s5, q, acc, o, k0, rfl, eq, da⟩ ⟨rfl, rfl⟩
        refine ⟨_, rfl, _, rfl, (by show 3 ≤ sizeLine; decide), fun p1 n1 => ⟨_, rfl, (by show 3 ≤ sizeLine; decide), fun p2 n2 => ⟨(by show 2 ≤ sizeLine; decide), fun p3 n3 _ => ?_⟩⟩⟩
        refine cat2 n1 n2 n3 eq da (by rw [netL_len]; simp; omega) fun r acc' H6 s6 hr da' => ?_
        refine ⟨s5.trans s6, r, acc', _, _, rfl, hr, ?_⟩
        rw [netL_succ]
        simpa using da'
      · rintro σ H4 ⟨s5, q, acc, o, k0, rfl, eq, da⟩
        refine ⟨_, rfl, n, rfl, n30, fun p2 H6 s6 np2 at2 => ?_⟩
        obtain ⟨dy, v2, e2, dv2⟩ := at2
        refine ⟨_, rfl, p2, _, dy, _, _, rfl, e2, cS, T.no2, rfl, _, rfl, q, acc, rfl, .inl ⟨sq_of (s6 _ _ eq), fun l2 nl2 => ?_⟩⟩
        have s7 := same_new (o := HO.tup acc) nl2
        refine ⟨_, _, _, rfl, Dq.same s7 _ _ dv2, .tup upd_same (DqAll.same (s6.trans s7) _ _ da), flat_mkLs (by rw [netL_len]; simp; omega), fun H8 s8 => ⟨true, rfl, iteT ?_⟩⟩
        refine ⟨_, rfl, p2, _, dy, _, _, rfl, (s7.trans s8) _ _ e2, cS, T.no1, rfl, _, _, .int 2, rfl, .int 2, .int 2, rfl, fun H9 s9 => ?_⟩
        exact hQ H9 (((s5.trans s6).trans (s7.trans s8)).trans s9)
end
end K08

set_option maxHeartbeats 4000000
namespace K08
open PySem PySem.Spec PyProof.Rows L2 V1 V2
open Evl (pss_cut tCut sq_of st_of)
def spLNet : Sp := fun vs H Q _ => ∃ a m ts n, vs = [.int m, .ref a, .int ((n : Nat) : Int)] ∧ Dq H (.ref a) (.tuple (ts.map mkT)) ∧ GoodT m ts ∧ n ≤ 60 ∧ ∀ H', Same H H' → Q (.bl true) H'
theorem scLNet : FnScope ["many", "ties", "beats", "most", "made", "e", "rows", "beat", "one", "other"] ["many", "ties", "beats"] (defScope s__law_net) := ⟨rfl, rfl, rfl, by decide +kernel, rfl, by decide +kernel, by decide +kernel⟩
def clN (K : PySem.W.Frag) : Addr → Value → Option Addr → TS := fun a cls d => tAsg (tXf a cls d (He.ga K "TooMany") "most" (tVar 5)) (gName 3)
section
variable {P : Program} {w : World} {K : PySem.W.Frag} {mg : Str → Option Value} {base : Heap}
theorem ok_lnet (T : Tx K mg) : Has P w K mg base CX0 10 "_law_net" ["many", "ties", "beats"] spLNet := by
  obtain ⟨fd, F⟩ := T.c.def_ 27 (d := d__law_net) rfl
  obtain ⟨fR, GR, bR, kR, gR⟩ := ok_sched (P := P) (w := w) (base := base) T
  have His := ok_is (P := P) (w := w) (base := base) T 3
  refine ⟨fd, F.ok scLNet (fun vs H Q E h => ?_) (fun cdv A outer s H vs Q E hr h => ?_), FunD.bindsN F fun _ _ _ _ _ _ us hl => match us, hl with | [_, _, _], _ => rfl, F.kp, (T.glo 40 rfl)⟩
  · obtain ⟨a, m, ts, n, rfl, _⟩ := h
    rfl
  · refine ⟨_, PSs.nox (pss_cons (ps_asg (pe_tup (pa_cons pe_non (pa_cons pe_non pa_nil))) (pg_tup (by rfl) (pgs_cons (pg_name (i := 3) scLNet.nd rfl (Or.inl rfl)) (pgs_cons (pg_name (i := 4) scLNet.nd rfl (Or.inl rfl)) pgs_nil))))
 (pss_cut (ps_try_cl (tb := fun W => tAsg (tCallS (spSched K) (WE W) (tCons (tVar 0) (tCons (tVar 1) (tCons (tVar 2) tNil)))) (gName 4)) (Wout := fun _ _ _ _ => False) (l := [(.ref (He.ga K "TooMany"), some 5, clN K)]) rfl rfl scLNet.nd takes0
 (fun W pn xe tk _ => pss_one (ps_set (i := 4) scLNet.nd rfl (Or.inl rfl) (by exact (pe_callS GR (hr.mono (by decide)) rfl gR kR bR (fun σ => passAt tk σ) (by exact (pa_cons (pv 0) (pa_cons (pv 1) (pa_cons (pv 2) pa_nil))))))))
 (.named (i := 5) (c := .ref (He.ga K "TooMany")) (ts := clN K) rfl rfl ⟨rfl, by decide, .inl (T.glo 7 rfl)⟩ (fun a oe cls d pn hz hf => pss_one (ps_set (i := 3) scLNet.nd rfl (Or.inl rfl) (pe_xf (T.xf 1 rfl) (T.noat 59 rfl) hz hf (pv 5)))) .nil))
 (pss_cons (ps_if (pt_cmpR op_gt (pe_op op_mul (pe_op op_mul pe_int (pe_callB call_len (by rfl) (T.free 49 rfl) PySem.boot_len (pa_cons (pv 1) pa_nil))) (pv 2)) pe_int (nomark _))
 (pss_one (ps_ret (pe_has His (hr.mono (by decide)) pass0 (pa_cons (pv 3) (pa_cons pe_int pa_nil)))))
 pss_nil)
 (pss_cons (ps_if (PW.pt (pw_or (pt_cmpR op_notN (pv 3) pe_non (nomark _)) (pw_or1 (pt_cmpR op_isN (pv 4) pe_non (nomark _)))))
 (pss_one (ps_ret pe_bl))
 pss_nil)
 (pss_cons (ps_set (i := 6) scLNet.nd rfl (Or.inl rfl) (pe_lstS pa_nil))
 (pss_cons (ps_for PassesOwn.never rfl (pi_range1 (by rfl) (T.free 53 rfl) (pa_cons (pv 2) pa_nil)) (pg_name (i := 7) scLNet.nd rfl (Or.inl rfl))
 (pss_one (ps_for PassesOwn.never rfl (pi_tup (pv 1)) (pg_tup (by rfl) (pgs_cons (pg_name (i := 8) scLNet.nd rfl (Or.inl rfl)) (pgs_cons (pg_name (i := 9) scLNet.nd rfl (Or.inl rfl)) pgs_nil)))
 (pss_one (ps_set (i := 6) scLNet.nd rfl (Or.inl rfl) (pe_op op_cat (pv 6) (pe_lstS (pa_cons (pe_tup (pa_cons (pv 8) (pa_cons (pv 9) (pa_cons (pv 7) pa_nil)))) (pa_cons (pe_tup (pa_cons (pv 9) (pa_cons (pv 8) (pa_cons (pv 7) pa_nil)))) pa_nil)))))))))
 (pss_one (ps_ret (pe_and (pe_has His (hr.mono (by decide)) pass0 (pa_cons (L2.pe_fld (pv 4) (by rfl)) (pa_cons (pe_callTy call_tuple_of (by rfl) (T.free 55 rfl) (by decide +kernel) (pa_cons (pv 6) pa_nil)) pa_nil))) (pe_one (pe_has His (hr.mono (by decide)) pass0 (pa_cons (L2.pe_fld (pv 4) (by rfl)) (pa_cons (pv 0) pa_nil))))))))))))), ?_⟩
    obtain ⟨a, m, ts, n, rfl, hv, g, hn, hQ⟩ := h
    have cS := T.insC.cl
    refine ⟨by show 2 ≤ sizeLine; decide, fun q0 nq0 => ⟨q0, _, rfl, st_of upd_same, rfl, _, _, rfl, _, _, rfl, rfl, ?_⟩⟩
    have s0 := same_new (o := HO.tup [.non, .non]) nq0
    refine ⟨fun σ H' => Same H H' ∧ (60 < 2 * ts.length * n → ∃ o4 o5 o6 o7 o8 o9, σ = [some (.int m), some (.ref a), some (.int ((n : Nat) : Int)), some (.int 60), o4, o5, o6, o7, o8, o9]) ∧
      (2 * ts.length * n ≤ 60 → ∃ p, (∃ o5 o6 o7 o8 o9, σ = [some (.int m), some (.ref a), some (.int ((n : Nat) : Int)), some .non, some (.ref p), o5, o6, o7, o8, o9]) ∧ SchAt K H' p m (netL ts n)), ?_, ?_⟩
    · refine ⟨_, rfl, _, rfl, _, rfl, a, m, ts, n, rfl, Dq.same s0 _ _ hv, g, hn, fun big d H' nd sm hd => ?_, fun small p H' sm np at_ => ?_⟩
      · have E := T.one 1 (x := "TooMany") rfl
        have em : PySem.W.exmOne K (.ref (He.ga K "TooMany")) (.ref (He.ga K "TooMany")) = some true := by
          rw [E.exm E rfl, decide_eq_true rfl, Bool.true_or]
        refine wCl_take em fun a na => ?_
        refine ⟨_, rfl, rfl, rfl, d, _, .int 60, rfl, hd, (by simp [List.lookup]), ?_⟩
        exact ⟨s0.trans sm, fun _ => ⟨_, _, _, _, _, _, rfl⟩, fun z => absurd z (by omega)⟩
      · exact ⟨s0.trans sm, fun z => absurd z (by omega), fun _ => ⟨p, ⟨_, _, _, _, _, rfl⟩, at_⟩⟩
    · rintro σ H1 ⟨s1, hbig, hsmall⟩
      have hv1 := Dq.same s1 _ _ hv
      obtain ⟨a', us, ea, ha, hr'⟩ := Dq.tup_inv hv1
      cases ea
      have len : us.length = ts.length := by rw [dqAll_len hr', List.length_map]
      have z : ((2 * ts.length * n : Nat) : Int) = 2 * (ts.length : Int) * (n : Int) := by push_cast; rfl
      by_cases big : 60 < 2 * ts.length * n
      · obtain ⟨o4, o5, o6, o7, o8, o9, rfl⟩ := hbig big
        refine ⟨_, rfl, _, _, rfl, .inr ⟨us, st_of ha, rfl⟩, _, _, rfl, rfl, .inl ⟨by decide, by decide⟩, _, rfl, _, _, rfl, rfl, .inr ⟨by omega, by omega⟩, _, _, rfl, rfl, true, by rw [len]; exact congrArg V.bl (decide_eq_true (by omega)), iteT ?_⟩
        exact ⟨_, rfl, _, _, .int 60, rfl, .int 60, .int 60, rfl, fun H2 s2 => hQ H2 (s1.trans s2)⟩
      · have small : 2 * ts.length * n ≤ 60 := by omega
        obtain ⟨p, ⟨o5, o6, o7, o8, o9, rfl⟩, dx, v, e1, dv⟩ := hsmall small
        refine ⟨_, rfl, _, _, rfl, .inr ⟨us, st_of ha, rfl⟩, _, _, rfl, rfl, .inl ⟨by decide, by decide⟩, _, rfl, _, _, rfl, rfl, .inr ⟨by omega, by omega⟩, _, _, rfl, rfl, false, by rw [len]; exact congrArg V.bl (decide_eq_false (by omega)), iteF ?_⟩
        refine ⟨_, rfl, rfl, false, rfl, iteF ⟨_, rfl, rfl, false, rfl, iteF ?_⟩⟩
        refine ⟨by show 0 ≤ sizeLine; decide, fun q0 nq0 _ => ?_⟩
        have sq0 := same_new (o := HO.lst []) nq0
        refine ⟨_, rfl, n, rfl, by omega, by omega, ?_⟩
        rw [Int.toNat_natCast]
        refine for_it (walk_range (lo := 0) (n := n)) (fun i σ H' => Same H1 H' ∧ ∃ q acc o5 o7 o8 o9, σ = [some (.int m), some (.ref a), some (.int ((n : Nat) : Int)), some .non, some (.ref p), o5, some (.ref q), o7, o8, o9] ∧ H' q = some (.lst acc) ∧ DqAll H' acc ((netL ts i).map mkL)) ⟨sq0, _, _, _, _, _, _, rfl, upd_same, .nil⟩ (fun _ _ _ _ _ => True.intro) ?_ ?_
        · rintro i x σ H4 H5 hi ⟨s5, q, acc, o5, o7, o8, o9, rfl, eq, da⟩ ⟨rfl, rfl⟩
          have bigi : 2 * ts.length * (i + 1) ≤ 60 := Nat.le_trans (Nat.mul_le_mul_left _ hi) small
          refine ⟨_, rfl, a, rfl, ⟨_, st_of (s5 _ _ ha)⟩, for_it walk_tup (fun j σ H' => Same H1 H' ∧ ∃ q acc o8 o9, σ = [some (.int m), some (.ref a), some (.int ((n : Nat) : Int)), some .non, some (.ref p), o5, some (.ref q), some (.int (0 + (i : Nat))), o8, o9] ∧ H' q = some (.lst acc) ∧ DqAll H' acc ((netL ts i ++ (ts.take j).flatMap fun t => [(t.1, t.2, (i : Int)), (t.2, t.1, (i : Int))]).map mkL)) ⟨s5, _, _, _, _, rfl, eq, by simpa using da⟩ (fun j σ H' _ z => st_of (z.1 _ _ ha)) ?_ ?_⟩
          · rintro j x σ H6 H7 hj ⟨s7, q, acc, o8, o9, rfl, eq, da⟩ ⟨rfl, hx⟩
            have hj' : j < ts.length := by omega
            have dx : Dq H7 x (mkT ts[j]) := Dq.same s7 _ _ (DqAll.at hr' hx (by rw [List.getElem?_map, List.getElem?_eq_getElem hj']; rfl))
            obtain ⟨b, rfl, hb⟩ := tie_inv dx
            refine ⟨b, _, rfl, st_of hb, rfl, _, _, rfl, _, _, rfl, rfl, ?_⟩
            refine ⟨_, rfl, _, rfl, _, rfl, _, rfl, (by show 3 ≤ sizeLine; decide), fun p1 n1 => ⟨_, rfl, _, rfl, _, rfl, (by show 3 ≤ sizeLine; decide), fun p2 n2 => ⟨(by show 2 ≤ sizeLine; decide), fun p3 n3 _ => ?_⟩⟩⟩
            refine cat2 n1 n2 n3 eq da ?_ fun r acc' H8 s8 hr da' => ?_
            · rw [List.length_append, netL_len]
              have zz : ∀ (us : List (Int × Int)), (us.flatMap fun t => [((t.1, t.2, (i : Int)) : Lt3), (t.2, t.1, (i : Int))]).length = 2 * us.length := fun us => by
                induction us with
                | nil => rfl
                | cons u us ih =>
                  rw [List.flatMap_cons, List.length_append, ih, List.length_cons]
                  simp
                  omega
              rw [zz, List.length_take, Nat.min_eq_left (by omega)]
              rw [Nat.mul_add] at bigi
              omega
            refine ⟨s7.trans s8, r, acc', _, _, rfl, hr, ?_⟩
            have tk : ts.take (j + 1) = ts.take j ++ [ts[j]] := by rw [List.take_succ, List.getElem?_eq_getElem hj']; rfl
            rw [tk, List.flatMap_append, ← List.append_assoc]
            simpa using da'
          · rintro σ H6 ⟨s7, q, acc, o8, o9, rfl, eq, da⟩
            rw [List.take_of_length_le (by omega)] at da
            rw [← netL_succ] at da
            exact ⟨s7, _, _, _, _, _, _, rfl, eq, da⟩
        · rintro σ H4 ⟨s5, q, acc, o5, o7, o8, o9, rfl, eq, da⟩
          refine ⟨_, rfl, p, _, dx, _, _, rfl, s5 _ _ e1, cS, T.no2, rfl, _, rfl, q, acc, rfl, .inl ⟨sq_of eq, fun l2 nl2 => ?_⟩⟩
          have s7 := same_new (o := HO.tup acc) nl2
          refine ⟨_, _, _, rfl, Dq.same (s5.trans s7) _ _ dv, .tup upd_same (DqAll.same s7 _ _ da), flat_mkLs (by rw [netL_len]; omega), fun H8 s8 => ⟨true, rfl, iteT ?_⟩⟩
          refine ⟨_, rfl, p, _, dx, _, _, rfl, ((s5.trans s7).trans s8) _ _ e1, cS, T.no1, rfl, _, rfl, _, _, .int m, rfl, .int m, .int m, rfl, fun H9 s9 => ?_⟩
          exact hQ H9 ((((s1.trans s5).trans s7).trans s8).trans s9)
end
end K08

set_option maxHeartbeats 4000000
namespace K08
open PySem PySem.Spec PyProof.Rows L2 V1 V2
open Evl (pss_cut tCut sq_of st_of)
def spEqs : Sp := fun vs H Q _ => ∃ a m b ls, vs = [.ref a, .int m, .ref b] ∧ HandAt H a ∧ Dq (delH H a) (.ref b) (.tuple (ls.map mkL)) ∧ GoodS m ls ∧ ∀ H', HandAt H' a → cellsOf H' a = cellsOf H a → Same (delH H a) (delH H' a) → Q (.bl true) H'
theorem scEqs : FnScope ["hand", "many", "letters", "one", "other", "at"] ["hand", "many", "letters"] (defScope s__law_equals) := ⟨rfl, rfl, rfl, by decide +kernel, rfl, by decide +kernel, by decide +kernel⟩
/-- a hand stays when only new things are laid -/
theorem hand_same {H H' : Hp} {a : Addr} (h : HandAt H a) (s : Same H H') : HandAt H' a := by
  obtain ⟨c, cs, i1, i2, i3, i4, e, _⟩ := h.ex
  exact h.new ((s _ _ e).trans e.symm) (same_del s)
theorem cells_same {H H' : Hp} {a : Addr} (h : HandAt H a) (s : Same H H') : cellsOf H' a = cellsOf H a := by
  obtain ⟨c, cs, i1, i2, i3, i4, e, _⟩ := h.ex
  rw [cellsOf_at e, cellsOf_at (s _ _ e)]
theorem HandAt.held {H : Hp} {a : Addr} (h : HandAt H a) : Held H a := by
  obtain ⟨c, cs, i1, i2, i3, i4, e, _⟩ := h.ex
  exact ⟨_, e⟩
section
variable {P : Program} {w : World} {K : PySem.W.Frag} {mg : Str → Option Value} {base : Heap}
theorem catA_go {H : Hp} {Q : VK} {p2 p3 : Addr} {xs ys : List V} (h2 : H p2 = some (.tup xs)) (h3 : H p3 = some (.tup ys)) (hz : xs.length + ys.length ≤ 1000) (k : ∀ q H', Same H H' → H' q = some (.tup (xs ++ ys)) → Q (.ref q) H') : rCatA K (.ref p2) (.ref p3) H Q :=
  ⟨p2, p3, xs, ys, rfl, rfl, st_of h2, st_of h3, Nat.le_of_lt (small1000 hz), fun e => k p3 H (Same.refl H) (by rw [e]; exact h3), fun _ e => k p2 H (Same.refl H) (by rw [e, List.append_nil]; exact h2), fun _ _ p np => k p _ (same_new np) upd_same⟩
theorem DqAll.drop {H : Hp} : ∀ {vs : List V} {ds : List PyData} (n : Nat), DqAll H vs ds → DqAll H (vs.drop n) (ds.drop n)
  | _, _, 0, h => h
  | _, _, _ + 1, .nil => .nil
  | _, _, n + 1, .cons _ more => DqAll.drop n more
theorem GoodS.more {m : Int} {ls : List Lt3} (h : GoodS m ls) (l : m < 8) : GoodS (m + 1) ls := ⟨by have := h.m2; omega, by omega, h.len, fun x hx => by
  have z := h.ok x hx
  exact ⟨⟨z.a.1, by have := z.a.2; omega⟩, ⟨z.b.1, by have := z.b.2; omega⟩, z.ne, z.t⟩, h.up, h.nd⟩
theorem nf_data (T : Tx K mg) (d : PyData) : PySem.W.notFirst K (He.ga K "Schedule") (.type (tyName d)) = true := (T.insK 0 rfl).nf _ (tyName_mem d)
theorem nf_own : PySem.W.notFirst K (He.ga K "Schedule") (.ref (He.ga K "Schedule")) = true := by simp [PySem.W.notFirst]
/-- one == a data: no -/
theorem eq_data (T : Tx K mg) {H : Hp} {Q : VK} {E : XK} {p : Addr} {m : Int} {ls : List Lt3} {y : V} {d : PyData} (h : SchAt K H p m ls) (hy : Dq H y d) (q : Q (.bl false) H) : rOwnE K (He.ga K "Schedule") (spEq K) E (.ref p) y H Q := by
  obtain ⟨dx, v, e, dv⟩ := h
  exact ⟨p, dx, _, _, rfl, e, dq_ty hy, nf_data T d, p, m, ls, y, rfl, ⟨dx, v, e, dv⟩, .inl ⟨d, hy, _, rfl, q⟩⟩
theorem eq_sched (T : Tx K mg) {H : Hp} {Q : VK} {E : XK} {p q : Addr} {m m' : Int} {ls ls' : List Lt3} (h : SchAt K H p m ls) (h' : SchAt K H q m' ls') (k : Q (.bl (decide (m = m') && decide (ls = ls'))) H) : rOwnE K (He.ga K "Schedule") (spEq K) E (.ref p) (.ref q) H Q := by
  obtain ⟨dx, v, e, dv⟩ := h
  obtain ⟨dy, v', e', dv'⟩ := h'
  exact ⟨p, dx, _, _, rfl, e, TyX_ins e' T.insC, nf_own, p, m, ls, _, rfl, ⟨dx, v, e, dv⟩, .inr ⟨q, m', ls', rfl, ⟨dy, v', e', dv'⟩, _, rfl, k⟩⟩
theorem ok_eqs (T : Tx K mg) : Has P w K mg base CX0 8 "_law_equals" ["hand", "many", "letters"] spEqs := by
  obtain ⟨fd, F⟩ := T.c.def_ 25 (d := d__law_equals) rfl
  have Hs := ok_init (P := P) (w := w) (base := base) T
  have Hd := ok_draw (P := P) (w := w) (base := base) T
  obtain ⟨fe, Fe, be⟩ := ok_eq (P := P) (w := w) (base := base) T
  refine ⟨fd, F.ok scEqs (fun vs H Q E h => ?_) (fun cdv A outer s H vs Q E hr h => ?_), FunD.bindsN F fun _ _ _ _ _ _ us hl => match us, hl with | [_, _, _], _ => rfl, F.kp, (T.glo 38 rfl)⟩
  · obtain ⟨a, m, b, ls, rfl, _⟩ := h
    rfl
  · refine ⟨_, PSs.nox (pss_cons (ps_par (i := 3) (j := 4) rfl scEqs.nd rfl rfl (by decide) rfl rfl (pa_cons (pe_hasC Hs (hr.mono (by decide)) passF (pa_cons (pv 1) (pa_cons (pv 2) pa_nil))) (pa_cons (pe_hasC Hs (hr.mono (by decide)) passF (pa_cons (pv 1) (pa_cons (pe_callTy call_tuple_of (by rfl) (T.free 55 rfl) (by decide +kernel) (pa_cons (pe_callTy call_list_of (by rfl) (T.free 50 rfl) (by decide +kernel) (pa_cons (pv 2) pa_nil)) pa_nil)) pa_nil))) pa_nil)) (by rfl))
 (pss_cons (ps_if (PW.pt (pw_or (pt_not (pt_cmpR (op_ownE Fe ((He.meth_ok (T.c.fact 69 (f := .meth "Schedule" "__eq__") rfl)).at_) ((He.meth_ok (T.c.fact 69 (f := .meth "Schedule" "__eq__") rfl)).fn) be pass0 (hr.mono (by decide))) (pv 3) (pv 4) (nomark _))) (pw_or (pt_cmpR (op_ownE Fe ((He.meth_ok (T.c.fact 69 (f := .meth "Schedule" "__eq__") rfl)).at_) ((He.meth_ok (T.c.fact 69 (f := .meth "Schedule" "__eq__") rfl)).fn) be pass0 (hr.mono (by decide))) (pv 3) (pe_tup (pa_cons (pv 1) (pa_cons (pv 2) pa_nil))) (nomark _)) (pw_or (pt_cmpR (op_ownE Fe ((He.meth_ok (T.c.fact 69 (f := .meth "Schedule" "__eq__") rfl)).at_) ((He.meth_ok (T.c.fact 69 (f := .meth "Schedule" "__eq__") rfl)).fn) be pass0 (hr.mono (by decide))) (pv 3) pe_non (nomark _)) (pw_or1 (pt_cmpR (op_ownE Fe ((He.meth_ok (T.c.fact 69 (f := .meth "Schedule" "__eq__") rfl)).at_) ((He.meth_ok (T.c.fact 69 (f := .meth "Schedule" "__eq__") rfl)).fn) be pass0 (hr.mono (by decide))) (pv 3) (pv 2) (nomark _)))))))
 (pss_one (ps_ret pe_bl))
 pss_nil)
 (pss_cut (ps_if (PW.pt (pw_and (pt_cmpR op_lt (pv 1) pe_int (nomark _)) (pw_and1 (pt_cmpR (op_ownE Fe ((He.meth_ok (T.c.fact 69 (f := .meth "Schedule" "__eq__") rfl)).at_) ((He.meth_ok (T.c.fact 69 (f := .meth "Schedule" "__eq__") rfl)).fn) be pass0 (hr.mono (by decide))) (pv 3) (pe_hasC Hs (hr.mono (by decide)) passF (pa_cons (pe_op op_add (pv 1) pe_int) (pa_cons (pv 2) pa_nil))) (nomark _)))))
 (pss_one (ps_ret pe_bl))
 pss_nil)
 (pss_cons (ps_set (i := 5) scEqs.nd rfl (Or.inl rfl) (pe_has Hd (hr.mono (by decide)) pass0 (pa_cons (pv 0) (pa_cons (pe_op op_add (pe_callB call_len (by rfl) (T.free 49 rfl) PySem.boot_len (pa_cons (pv 2) pa_nil)) pe_int) pa_nil))))
 (pss_one (ps_ret (pe_or (pe_cmpR op_eq (pv 5) (pe_callB call_len (by rfl) (T.free 49 rfl) PySem.boot_len (pa_cons (pv 2) pa_nil)) (nomark _)) (pe_one (pe_not (pe_cmpR (op_ownE Fe ((He.meth_ok (T.c.fact 69 (f := .meth "Schedule" "__eq__") rfl)).at_) ((He.meth_ok (T.c.fact 69 (f := .meth "Schedule" "__eq__") rfl)).fn) be pass0 (hr.mono (by decide))) (pv 3) (pe_hasC Hs (hr.mono (by decide)) passF (pa_cons (pv 1) (pa_cons (pe_op op_catA (pe_slice sl_tup (pv 2) po_none (po_some (pv 5))) (pe_slice sl_tup (pv 2) (po_some (pe_op op_add (pv 5) pe_int)) po_none)) pa_nil))) (nomark _))))))))))), ?_⟩
    obtain ⟨a, m, b, ls, rfl, hd, hv, g, hQ⟩ := h
    have hv0 : Dq H (.ref b) (.tuple (ls.map mkL)) := Dq.same same_delH _ _ hv
    obtain ⟨b', us, eb, hb, hr'⟩ := Dq.tup_inv hv0
    cases eb
    have len : us.length = ls.length := by rw [dqAll_len hr', List.length_map]
    have nob : ∀ {m' : Int} {ls' : List Lt3}, GoodS m' ls' → ∀ x, partOf (.int m') (.tuple (ls'.map mkL)) = some x → False := fun g' x hx => by
      rw [partOf_good g'] at hx
      cases hx
    have hold := hd.held
    refine ⟨_, rfl, _, rfl, ?_⟩
    refine sched_fin (.int m) hv0 (fun x hx => (nob g x hx).elim) fun _ p dx H1 s1 np e1 => ?_
    have npa : p ≠ a := fun z => by
      obtain ⟨o, e⟩ := hold
      rw [z, e] at np
      cases np
    have atD : SchAt K (delH H1 a) p m ls := ⟨dx, _, by rw [delH_ne npa]; exact e1, Dq.same (same_del s1) _ _ hv⟩
    refine ⟨_, rfl, _, rfl, b, us, rfl, .inr (st_of (s1 _ _ hb)), fun l nl => ⟨l, us, rfl, .inl ⟨sq_of upd_same, fun t nt => ?_⟩⟩⟩
    have s2 := (same_new (o := HO.lst us) nl).trans (same_new (o := HO.tup us) nt)
    refine sched_fin (.int m) (.tup upd_same (DqAll.same (s1.trans s2) _ _ hr')) (fun x hx => (nob g x hx).elim) fun _ p' dy H2 s3 np' e2 => ?_
    have s12 := s2.trans s3
    have atD2 := SchAt.same atD (same_del s12)
    have at1 : SchAt K H2 p m ls := SchAt.same atD2 same_delH
    have at2 : SchAt K H2 p' m ls := ⟨dy, _, e2, Dq.same s3 _ _ (.tup upd_same (DqAll.same (s1.trans s2) _ _ hr'))⟩
    have s02 := s1.trans s12
    have hv2 := Dq.same s02 _ _ hv0
    refine ⟨_, _, rfl, ?_⟩
    refine ⟨_, rfl, _, rfl, eq_sched T at1 at2 ⟨true, by rw [decide_eq_true rfl, decide_eq_true rfl]; rfl, iteF ?_⟩⟩
    refine ⟨_, rfl, _, rfl, _, rfl, (by show 2 ≤ sizeLine; decide), fun q0 nq0 => eq_data T (SchAt.same at1 (same_new nq0)) (.tup upd_same (.cons (.int m) (.cons (Dq.same (same_new nq0) _ _ hv2) .nil))) ⟨false, rfl, iteF ?_⟩⟩
    have sq := same_new (o := HO.tup [.int m, .ref b]) nq0
    obtain ⟨dxx, vv, ex1, dxv⟩ := SchAt.same at1 sq
    refine ⟨_, rfl, p, dxx, _, _, rfl, ex1, dq_ty .non, nf_data T .none, p, m, ls, _, rfl, ⟨dxx, vv, ex1, dxv⟩, .inl ⟨.none, .non, _, rfl, false, rfl, iteF ?_⟩⟩
    refine ⟨_, rfl, _, rfl, eq_data T (SchAt.same at1 sq) (Dq.same sq _ _ hv2) ⟨false, rfl, iteF ?_⟩⟩
    generalize upd H2 q0 (HO.tup [.int m, .ref b]) = H3 at sq
    -- the rest, from any later heap
    have s03 := s02.trans sq
    have atD3 := SchAt.same atD2 (same_del sq)
    have rest : ∀ H5, Same H3 H5 → ∀ (r : Nat), r ≤ ls.length → ∀ H6, HandAt H6 a → delH H6 a = delH H5 a → True := fun _ _ _ _ _ _ _ => trivial
    have hd3 := hand_same hd s03
    refine ⟨fun σ H5 => σ = [some (.ref a), some (.int m), some (.ref b), some (.ref p), some (.ref p'), none] ∧ Same H3 H5, ?_, ?_⟩
    · refine ⟨_, rfl, _, _, rfl, rfl, _, rfl, ite2 (fun e => ?_) (fun e => ⟨rfl, Same.refl _⟩)⟩
      have m8 := of_decide_eq_true e
      refine ⟨_, rfl, _, rfl, _, _, rfl, rfl, _, rfl, ?_⟩
      refine sched_fin (.int (m + 1)) (Dq.same s03 _ _ hv0) (fun x hx => (nob (g.more m8) x hx).elim) fun _ p5 dz H5 s5 np5 e5 => ?_
      have at5 : SchAt K H5 p5 (m + 1) ls := ⟨dz, _, e5, Dq.same (s03.trans s5) _ _ hv0⟩
      refine eq_sched T (SchAt.same (SchAt.same atD3 same_delH) s5) at5 ⟨false, by rw [decide_eq_false (by omega), Bool.false_and], iteF ⟨rfl, s5⟩⟩
    · rintro σ H5 ⟨rfl, s5⟩
      have s05 := s03.trans s5
      have hb5 := s05 _ _ hb
      have l60 := g.len
      refine ⟨_, rfl, _, rfl, _, _, rfl, .inr ⟨us, st_of hb5, rfl⟩, _, _, rfl, rfl, a, _, rfl, hand_same hd s05, by omega, by omega, fun H6 r hd6 e6 ec6 r0 r1 => ?_⟩
      have ec66 := ec6.trans (cells_same hd s05)
      obtain ⟨j, rfl⟩ := Int.eq_ofNat_of_zero_le r0
      have at6D : SchAt K (delH H6 a) p m ls := by rw [e6]; exact SchAt.same atD3 (same_del s5)
      have sD6 : Same (delH H a) (delH H6 a) := by rw [e6]; exact same_del s05
      have hv6 : Dq H6 (.ref b) (.tuple (ls.map mkL)) := Dq.same same_delH _ _ (Dq.same sD6 _ _ hv)
      obtain ⟨b', us6, eb6, hb6, hr6⟩ := Dq.tup_inv hv6
      cases eb6
      have len6 : us6.length = ls.length := by rw [dqAll_len hr6, List.length_map]
      refine ⟨_, rfl, _, rfl, _, _, rfl, .inr ⟨us6, st_of hb6, rfl⟩, rfl, _, rfl, ite2 (fun c => ?_) (fun c => ?_)⟩
      · exact hQ H6 hd6 ec66 sD6
      have ne : j ≠ us6.length := fun z => c (by rw [z]; simp)
      have hj : j < us6.length := by omega
      have cut1 : cutV us6 none (some ((j : Nat) : Int)) = us6.take j := by
        unfold cutV
        rw [HT.sIx_none, HT.sIx_nat, List.drop_zero, Nat.sub_zero, Nat.min_eq_left (by omega)]
      have cut2 : cutV us6 (some ((j : Nat) + 1 : Int)) none = us6.drop (j + 1) := by
        unfold cutV
        have z : ((j : Nat) + 1 : Int) = ((j + 1 : Nat) : Int) := by omega
        rw [z, HT.sIx_none, HT.sIx_nat, Nat.min_eq_left (by omega)]
        exact List.take_of_length_le (by rw [List.length_drop]; omega)
      refine ⟨_, rfl, _, rfl, _, rfl, _, rfl, _, rfl, b, us6, rfl, st_of hb6, ?_, fun p2 np2 => ⟨_, rfl, _, rfl, _, _, rfl, rfl, _, rfl, b, us6, rfl, st_of (same_new np2 _ _ hb6), ?_, fun p3 np3 => ?_⟩⟩
      · rw [HT.sIx_none, HT.sIx_nat]
        omega
      · have z : ((j : Nat) + 1 : Int) = ((j + 1 : Nat) : Int) := by omega
        rw [z, HT.sIx_none, HT.sIx_nat]
        omega
      rw [cut1, cut2]
      rw [cut1] at np3
      have t1 := same_new (o := HO.tup (us6.take j)) np2
      have t2 := same_new (o := HO.tup (us6.drop (j + 1))) np3
      refine catA_go (t2 _ _ upd_same) upd_same (by rw [List.length_take, List.length_drop]; omega) fun q H7 s7 e7 => ?_
      have t := (t1.trans t2).trans s7
      have sub : (ls.take j ++ ls.drop (j + 1)).Sublist ls := by
        have z : (ls.take j ++ ls.drop (j + 1)).Sublist (ls.take j ++ ls.drop j) := List.Sublist.append_left (List.drop_sublist_drop_left ls (by omega)) _
        rw [List.take_append_drop] at z
        exact z
      have g7 := g.sub sub
      have d7 : Dq H7 (.ref q) (.tuple ((ls.take j ++ ls.drop (j + 1)).map mkL)) := by
        refine .tup e7 ?_
        rw [List.map_append, List.map_take, List.map_drop]
        exact DqAll.app (DqAll.same t _ _ (DqAll.take j hr6)) (DqAll.same t _ _ (DqAll.drop (j + 1) hr6))
      refine sched_fin (.int m) d7 (fun x hx => (nob g7 x hx).elim) fun _ p8 dw H8 s8 np8 e8 => ?_
      have neq : ls ≠ ls.take j ++ ls.drop (j + 1) := fun z => by
        have z2 := congrArg List.length z
        rw [List.length_append, List.length_take, List.length_drop] at z2
        omega
      refine eq_sched T (SchAt.same (SchAt.same at6D same_delH) (t.trans s8)) ⟨dw, _, e8, Dq.same s8 _ _ d7⟩ ⟨false, by rw [decide_eq_false neq, Bool.and_false], ?_⟩
      exact hQ H8 (hand_same hd6 (t.trans s8)) ((cells_same hd6 (t.trans s8)).trans ec66) (sD6.trans (same_del (t.trans s8)))
end
end K08

set_option maxHeartbeats 4000000
namespace K08
open PySem PySem.Spec PyProof.Rows L2 V1 V2
open Evl (pss_cut tCut sq_of st_of)
theorem del2_upd {H : Hp} {a f : Addr} {o : HO} : delH (delH (upd H f o) a) f = delH (delH H a) f := by
  funext b
  by_cases e : b = f
  · rw [e, delH_same, delH_same]
  · rw [delH_ne e, delH_ne e]
    by_cases e2 : b = a
    · rw [e2, delH_same, delH_same]
    · rw [delH_ne e2, delH_ne e2, upd_ne e]
/-- the hand at a, a list of letters at f, all else as in H0 -/
structure LS (H0 : Hp) (a f c : Addr) (ls : List Lt3) (H : Hp) : Prop where
  hd : HandAt H a
  ce : cellsOf H a = some (.ref c)
  sm : Same (delH H0 a) (delH (delH H a) f)
  at_ : ∃ acc, H f = some (.lst acc) ∧ DqAll (delH (delH H a) f) acc (ls.map mkL)
theorem LS.draw {H0 H H' : Hp} {a f c : Addr} {ls : List Lt3} (h : LS H0 a f c ls H) (na : f ≠ a) (h1 : HandAt H' a) (h2 : delH H' a = delH H a) (h3 : cellsOf H' a = cellsOf H a) : LS H0 a f c ls H' := by
  obtain ⟨acc, e, d⟩ := h.at_
  refine ⟨h1, h3.trans h.ce, by rw [h2]; exact h.sm, acc, ?_, by rw [h2]; exact d⟩
  have z := congrFun h2 f
  rw [delH_ne na, delH_ne na] at z
  exact z.trans e
theorem LS.new {H0 H H' : Hp} {a f c : Addr} {ls : List Lt3} (h : LS H0 a f c ls H) (s : Same H H') : LS H0 a f c ls H' := by
  obtain ⟨acc, e, d⟩ := h.at_
  exact ⟨hand_same h.hd s, (cells_same h.hd s).trans h.ce, h.sm.trans (same_del (same_del s)), acc, s _ _ e, DqAll.same (same_del (same_del s)) _ _ d⟩
theorem LS.app {H0 H : Hp} {a f c : Addr} {ls : List Lt3} {l : Lt3} {acc : List V} {v : V} (h : LS H0 a f c ls H) (na : f ≠ a) (nc : c ≠ f) (d : DqAll (delH (delH H a) f) acc (ls.map mkL)) (dv : Dq (delH (delH H a) f) v (mkL l)) :
    LS H0 a f c (ls ++ [l]) (upd H f (.lst (acc ++ [v]))) := by
  have o := h.hd.off h.ce nc na
  refine ⟨?_, ?_, ?_, acc ++ [v], upd_same, ?_⟩
  · have z : HandAt (delH (upd H f (.lst (acc ++ [v]))) f) a := by rw [delH_upd]; exact o
    exact hand_same z same_delH
  · have z := h.ce
    unfold cellsOf at z ⊢
    rw [upd_ne (Ne.symm na)]
    exact z
  · rw [del2_upd]
    exact h.sm
  · rw [del2_upd, List.map_append]
    exact DqAll.app d (.cons dv .nil)
theorem mkLs_shapedL (ls : List Lt3) : SeqAt.shaped (.list (ls.map mkL)) = true := by
  refine shaped_of ?_ ?_
  · show PyData.canLayAll0 _ = true
    refine canLayAll_of fun d hd => ?_
    obtain ⟨l, _, rfl⟩ := List.mem_map.mp hd
    exact mkL_canLay l
  · have z : PyData.depthAll (ls.map mkL) ≤ 1 := depthAll_le fun d hd => by
      obtain ⟨l, _, rfl⟩ := List.mem_map.mp hd
      exact mkL_depth l
    simp only [PyData.depth]
    omega
theorem mkLs_plainL (ls : List Lt3) : plainAll (ls.map mkL) = true := by
  refine plainAll_of fun d hd => ?_
  obtain ⟨l, _, rfl⟩ := List.mem_map.mp hd
  exact mkL_plain l
/-- letters so far: none later than beat -/
structure Sofar (m beat : Int) (i : Nat) (ls : List Lt3) : Prop where
  b0 : 0 ≤ beat
  b1 : beat ≤ 999
  len : ls.length ≤ i
  ok : ∀ l ∈ ls, LOk m l
  le : ∀ l ∈ ls, l.2.2 ≤ beat
  up : ls.Pairwise fun x y => x.2.2 ≤ y.2.2
  nd : ls.Nodup
theorem Sofar.on {m beat beat' : Int} {i : Nat} {ls : List Lt3} (h : Sofar m beat i ls) (h1 : beat ≤ beat') (h2 : beat' ≤ 999) : Sofar m beat' (i + 1) ls :=
  ⟨by have := h.b0; omega, h2, by have := h.len; omega, h.ok, fun l hl => Int.le_trans (h.le l hl) h1, h.up, h.nd⟩
theorem Sofar.app {m beat beat' x y : Int} {i : Nat} {ls : List Lt3} (h : Sofar m beat i ls) (h1 : beat ≤ beat') (h2 : beat' ≤ 999) (hx : 0 ≤ x ∧ x < m) (hy : 0 ≤ y ∧ y < m) (ne : x ≠ y) (nw : (x, y, beat') ∉ ls) : Sofar m beat' (i + 1) (ls ++ [(x, y, beat')]) := by
  have b0 := h.b0
  refine ⟨by omega, h2, by have := h.len; rw [List.length_append]; simp; omega, fun l hl => ?_, fun l hl => ?_, ?_, ?_⟩
  · rcases List.mem_append.mp hl with q | q
    · exact h.ok l q
    · simp only [List.mem_cons, List.not_mem_nil, or_false] at q
      rw [q]
      exact ⟨hx, hy, ne, ⟨by simp only; omega, h2⟩⟩
  · rcases List.mem_append.mp hl with q | q
    · exact Int.le_trans (h.le l q) h1
    · simp only [List.mem_cons, List.not_mem_nil, or_false] at q
      rw [q]
      exact Int.le_refl _
  · refine List.pairwise_append.mpr ⟨h.up, .cons (fun x hx => absurd hx List.not_mem_nil) .nil, fun a ha b hb => ?_⟩
    simp only [List.mem_cons, List.not_mem_nil, or_false] at hb
    rw [hb]
    exact Int.le_trans (h.le a ha) h1
  · refine List.nodup_append.mpr ⟨h.nd, .cons (fun x hx => absurd hx List.not_mem_nil) .nil, fun a ha b hb e => ?_⟩
    simp only [List.mem_cons, List.not_mem_nil, or_false] at hb
    rw [e, hb] at ha
    exact nw ha
def spLetters : Sp := fun vs H Q _ => ∃ (a : Addr) (m : Int) (k : Nat), vs = [.ref a, .int m, .int ((k : Nat) : Int)] ∧ HandAt H a ∧ 2 ≤ m ∧ m ≤ 8 ∧ k ≤ 60 ∧
  ∀ H' b ls, HandAt H' a → cellsOf H' a = cellsOf H a → Same (delH H a) (delH H' a) → Dq (delH H' a) (.ref b) (.tuple (ls.map mkL)) → GoodS m ls → Q (.ref b) H'
theorem scLetters : FnScope ["hand", "many", "most", "found", "beat", "turn", "one", "letter"] ["hand", "many", "most"] (defScope s__law_letters) := ⟨rfl, rfl, rfl, by decide +kernel, rfl, by decide +kernel, by decide +kernel⟩
theorem next_ne {m x r : Int} (m2 : 2 ≤ m) (m8 : m ≤ 8) (x0 : 0 ≤ x) (x1 : x < m) (r0 : 0 ≤ r) (r1 : r < m - 1) : x ≠ (x + 1 + r) % m := by
  have z : m = 2 ∨ m = 3 ∨ m = 4 ∨ m = 5 ∨ m = 6 ∨ m = 7 ∨ m = 8 := by omega
  rcases z with rfl | rfl | rfl | rfl | rfl | rfl | rfl <;> omega
end K08

set_option maxHeartbeats 4000000
namespace K08
open PySem PySem.Spec PyProof.Rows L2 V1 V2
open Evl (pss_cut tCut sq_of st_of)
theorem pos_of {xs : List Int} {i : Nat} {v : V} (h : (xs.map V.int)[i]? = some v) (p : ∀ x ∈ xs, 0 ≤ x) : ∃ z, v = .int z ∧ 0 ≤ z ∧ z ∈ xs := by
  rw [List.getElem?_map] at h
  obtain ⟨z, hz, rfl⟩ := Option.map_eq_some_iff.mp h
  exact ⟨z, rfl, p z (List.mem_of_getElem? hz), List.mem_of_getElem? hz⟩
section
variable {P : Program} {w : World} {K : PySem.W.Frag} {mg : Str → Option Value} {base : Heap}
theorem ok_letters (T : Tx K mg) : Has P w K mg base CX0 3 "_law_letters" ["hand", "many", "most"] spLetters := by
  obtain ⟨fd, F⟩ := T.c.def_ 19 (d := d__law_letters) rfl
  have Hs := ok_some (P := P) (w := w) (base := base) T
  have Hd := ok_draw (P := P) (w := w) (base := base) T
  refine ⟨fd, F.ok scLetters (fun vs H Q E h => ?_) (fun cdv A outer s H vs Q E hr h => ?_), FunD.bindsN F fun _ _ _ _ _ _ us hl => match us, hl with | [_, _, _], _ => rfl, F.kp, (T.glo 32 rfl)⟩
  · obtain ⟨a, m, k, rfl, _⟩ := h
    rfl
  · have hu : (A.deeper (envOfC d__law_letters.qual d__law_letters.scope s.heap.objs.size (He.fAd K d__law_letters.at_) cdv)).units + 65 < cLine := by
      have := hr.un
      omega
    refine ⟨_, PSs.nox (pss_cons (ps_par (i := 3) (j := 4) rfl scLetters.nd rfl rfl (by decide) rfl rfl (pa_cons (pe_lstS pa_nil) (pa_cons (pe_has Hs (hr.mono (by decide)) pass0 (pa_cons (pv 0) (pa_cons (pe_lstS (pa_cons pe_int (pa_cons pe_int (pa_cons pe_int (pa_cons pe_int (pa_cons pe_int pa_nil)))))) pa_nil))) pa_nil)) (by rfl))
 (pss_cons (ps_for PassesOwn.never rfl (pi_range1 (by rfl) (T.free 53 rfl) (pa_cons (pv 2) pa_nil)) (pg_name (i := 5) scLetters.nd rfl (Or.inl rfl))
 (pss_cons (ps_set (i := 4) scLetters.nd rfl (Or.inl rfl) (pe_callB (call_min2 rfl) (by rfl) (T.free 52 rfl) (by decide +kernel) (pa_cons pe_int (pa_cons (pe_op op_add (pv 4) (pe_has Hs (hr.mono (by decide)) pass0 (pa_cons (pv 0) (pa_cons (pe_lstS (pa_cons pe_int (pa_cons pe_int (pa_cons pe_int (pa_cons pe_int (pa_cons pe_int (pa_cons (pe_has Hd (hr.mono (by decide)) pass0 (pa_cons (pv 0) (pa_cons pe_int pa_nil))) pa_nil))))))) pa_nil)))) pa_nil))))
 (pss_cons (ps_set (i := 6) scLetters.nd rfl (Or.inl rfl) (pe_has Hd (hr.mono (by decide)) pass0 (pa_cons (pv 0) (pa_cons (pv 1) pa_nil))))
 (pss_cons (ps_set (i := 7) scLetters.nd rfl (Or.inl rfl) (pe_tup (pa_cons (pv 6) (pa_cons (pe_op op_mod (pe_callTy call_int1 (by rfl) (T.free 47 rfl) (by decide +kernel) (pa_cons (pe_op op_add (pe_op op_add (pv 6) pe_int) (pe_has Hd (hr.mono (by decide)) pass0 (pa_cons (pv 0) (pa_cons (pe_op op_sub (pv 1) pe_int) pa_nil)))) pa_nil)) (pv 1)) (pa_cons (pv 4) pa_nil)))))
 (pss_one (ps_if (pt_cmpR (op_notInD hu) (pv 7) (pv 3) (by rfl))
 (pss_one (ps_expr (pe_bm PySem.F.plainAttrs_list PySem.F.slot_list_append PySem.F.type_list_append mt_append (pv 3) (pa_cons (pv 7) pa_nil))))
 pss_nil))))))
 (pss_one (ps_ret (pe_callTy call_tuple_of (by rfl) (T.free 55 rfl) (by decide +kernel) (pa_cons (pv 3) pa_nil)))))), ?_⟩
    obtain ⟨a, m, k, rfl, hd, m2, m8, hk, hQ⟩ := h
    obtain ⟨c, cs, hce, nca, hc⟩ := hd.cells
    have hold := hd.held
    refine ⟨(by show 0 ≤ sizeLine; decide), fun f nf low => ?_⟩
    have nfa : f ≠ a := fun z => by
      obtain ⟨o, e⟩ := hold
      rw [z, e] at nf
      cases nf
    have nc : c ≠ f := fun z => by
      rw [← z, hc] at nf
      cases nf
    have sf := same_new (o := HO.lst []) nf
    have L0 : LS H a f c [] (upd H f (HO.lst [])) := by
      refine ⟨hand_same hd sf, (cells_same hd sf).trans hce, fun b o e => ?_, [], upd_same, .nil⟩
      by_cases z : b = a
      · rw [z, delH_same] at e
        cases e
      · rw [delH_ne z] at e
        have nb := ne_of_none e nf
        rw [delH_ne nb, delH_ne z, upd_ne nb]
        exact e
    -- a new list beside, then one of its ints
    have pick : ∀ {H1 : Hp} {ls : List Lt3} {q : Addr} {xs : List Int}, LS H a f c ls H1 → H1 q = none → (∀ x ∈ xs, 0 ≤ x) → 0 < xs.length → xs.length < 1000 → ∀ Q2 : VK, (∀ H2 z, LS H a f c ls H2 → 0 ≤ z → z ∈ xs → Q2 (.int z) H2) →
        ∀ E2, spSome K [.ref a, .ref q] (upd H1 q (.lst (xs.map V.int))) Q2 E2 := fun {H1 ls q xs} L nq px l0 l1 Q2 k2 E2 => by
      have s1 := same_new (o := HO.lst (xs.map V.int)) nq
      have nqa : q ≠ a := fun z => by
        obtain ⟨o, e⟩ := L.hd.held
        rw [z, e] at nq
        cases nq
      refine ⟨a, q, _, rfl, hand_same L.hd s1, upd_same, nqa, by rw [List.length_map]; exact l0, by rw [List.length_map]; exact l1, fun H2 i v hd2 e2 c2 ev => ?_⟩
      obtain ⟨z, rfl, z0, zm⟩ := pos_of ev px
      exact k2 H2 z ((L.new s1).draw nfa hd2 e2 c2) z0 zm
    refine ⟨_, rfl, (by show 5 ≤ sizeLine; decide), fun q nq _ => ?_⟩
    refine pick (xs := [0, 0, 5, 990, 999]) L0 nq (by decide) (by decide) (by decide) _ (fun H1 z L1 z0 zm => ?_) (fun _ _ _ => False)
    have z9 : z ≤ 999 := by
      simp only [List.mem_cons, List.not_mem_nil, or_false] at zm
      omega
    refine ⟨_, _, rfl, ?_⟩
    refine ⟨_, rfl, k, rfl, by omega, by omega, ?_⟩
    rw [Int.toNat_natCast]
    refine for_it (walk_range (lo := 0) (n := k)) (fun i σ H' => ∃ beat ls o5 o6 o7, σ = [some (.ref a), some (.int m), some (.int ((k : Nat) : Int)), some (.ref f), some (.int beat), o5, o6, o7] ∧ LS H a f c ls H' ∧ Sofar m beat i ls) ⟨z, [], _, _, _, rfl, L1, ⟨z0, z9, Nat.le_refl _, fun l hl => absurd hl List.not_mem_nil, fun l hl => absurd hl List.not_mem_nil, .nil, .nil⟩⟩ (fun _ _ _ _ _ => True.intro) ?_ ?_
    · rintro i x σ H2 H3 hi ⟨beat, ls, o5, o6, o7, rfl, L, S⟩ ⟨rfl, rfl⟩
      refine ⟨_, rfl, _, rfl, _, rfl, a, 60, rfl, L.hd, by decide, by decide, fun H4 r hd4 e4 c4 r0 r1 => ?_⟩
      have L4 := L.draw nfa hd4 e4 c4
      refine ⟨(by show 6 ≤ sizeLine; decide), fun q nq _ => ?_⟩
      refine pick (xs := [0, 0, 1, 1, 2, r]) L4 nq (fun x hx => by simp only [List.mem_cons, List.not_mem_nil, or_false] at hx; omega) (by show 0 < 6; decide) (by show 6 < 1000; decide) _ (fun H5 y L5 y0 _ => ?_) (fun _ _ _ => False)
      refine ⟨_, _, rfl, rfl, _, _, rfl, ?_⟩
      have bd : beat ≤ (if beat + y < 999 then beat + y else 999) ∧ (if beat + y < 999 then beat + y else 999) ≤ 999 := by
        have := S.b1
        split <;> omega
      generalize (if beat + y < 999 then beat + y else 999) = beat' at bd
      refine ⟨_, rfl, _, rfl, a, m, rfl, L5.hd, by omega, by omega, fun H6 x hd6 e6 c6 x0 x1 => ?_⟩
      have L6 := L5.draw nfa hd6 e6 c6
      refine ⟨_, rfl, _, rfl, _, _, rfl, rfl, _, rfl, _, rfl, _, _, rfl, rfl, a, m - 1, rfl, L6.hd, by omega, by omega, fun H7 r hd7 e7 c7 r0 r1 => ?_⟩
      have L7 := L6.draw nfa hd7 e7 c7
      refine ⟨_, _, rfl, rfl, .inl ⟨_, rfl, _, rfl, _, _, rfl, rfl, by omega, _, rfl, (by show 3 ≤ sizeLine; decide), fun t nt => ?_⟩⟩
      have ntf : t ≠ f := fun z => by
        obtain ⟨acc, e, _⟩ := L7.at_
        rw [z, e] at nt
        cases nt
      have nta : t ≠ a := fun z => by
        obtain ⟨o, e⟩ := L7.hd.held
        rw [z, e] at nt
        cases nt
      have L8 := L7.new (same_new (o := HO.tup [.int x, .int ((x + 1 + r) % m), .int beat']) nt)
      have dl : Dq (delH (delH (upd H7 t (HO.tup [.int x, .int ((x + 1 + r) % m), .int beat'])) a) f) (.ref t) (mkL (x, (x + 1 + r) % m, beat')) := by
        refine .tup ?_ (.cons (.int _) (.cons (.int _) (.cons (.int _) .nil)))
        rw [delH_ne ntf, delH_ne nta, upd_same]
      generalize upd H7 t (HO.tup [.int x, .int ((x + 1 + r) % m), .int beat']) = H8 at L8 dl
      obtain ⟨acc, e8, d8⟩ := L8.at_
      have la : acc.length = ls.length := by rw [dqAll_len d8, List.length_map]
      have up8 : Same (delH (delH H8 a) f) H8 := same_delH.trans same_delH
      refine ⟨_, rfl, _, rfl, mkL (x, (x + 1 + r) % m, beat'), ls.map mkL, dq_dp _ _ (mkL_plain _) (Dq.same up8 _ _ dl), .lst (.inl (.inl e8)) (dqAll_dp _ _ (mkLs_plainL ls) (DqAll.same up8 _ _ d8)), mkL_shaped _, mkLs_shapedL ls, _, rfl, ite2 (fun new => ?_) (fun old => ?_)⟩
      · refine ⟨_, rfl, .inl ⟨rfl, _, sq_of e8⟩, _, rfl, f, acc, _, rfl, rfl, e8, Nat.lt_of_le_of_lt (by have := S.len; omega : acc.length ≤ 60) (by show 60 < sizeLine; decide), ?_⟩
        have nw : (x, (x + 1 + r) % m, beat') ∉ ls := fun mem => by
          rw [Bool.not_eq_true', List.any_eq_false] at new
          refine new _ (List.mem_map.mpr ⟨_, mem, rfl⟩) ?_
          rw [eqv_mkL]
          exact decide_eq_true rfl
        exact ⟨beat', _, _, _, _, rfl, L8.app nfa nc d8 dl, S.app bd.1 bd.2 ⟨x0, x1⟩ ⟨Int.emod_nonneg _ (by omega), Int.emod_lt_of_pos _ (by omega)⟩ (next_ne m2 m8 x0 x1 r0 r1) nw⟩
      · exact ⟨beat', _, _, _, _, rfl, L8, S.on bd.1 bd.2⟩
    · rintro σ H2 ⟨beat, ls, o5, o6, o7, rfl, L, S⟩
      obtain ⟨acc, e2, d2⟩ := L.at_
      refine ⟨_, rfl, f, acc, rfl, .inl ⟨sq_of e2, fun l nl => ?_⟩⟩
      have s3 := same_new (o := HO.tup acc) nl
      have nla : l ≠ a := fun z => by
        obtain ⟨o, e⟩ := L.hd.held
        rw [z, e] at nl
        cases nl
      refine hQ _ l ls (hand_same L.hd s3) ((cells_same L.hd s3).trans (L.ce.trans hce.symm)) ((L.sm.trans same_delH).trans (same_del s3)) (.tup (by rw [delH_ne nla]; exact upd_same) (DqAll.same (same_delH.trans (same_del s3)) _ _ d2)) ⟨m2, m8, by have := S.len; omega, S.ok, S.up, S.nd⟩
end
end K08

set_option maxHeartbeats 4000000
namespace K08
open PySem PySem.Spec PyProof.Rows L2 V1 V2
open Evl (pss_cut tCut sq_of st_of)
/-- the pairs of neighbours, both ways -/
def pairL (m : Int) : List (Int × Int) := (List.range (2 * m - 2).toNat).map fun k : Nat => ((k : Int) / 2 + (k : Int) % 2, (k : Int) / 2 + 1 - (k : Int) % 2)
def fullL (m beat : Int) (n : Nat) : List Lt3 := (List.range n).flatMap fun t : Nat => (pairL m).map fun p => (p.1, p.2, beat + (t : Int))
theorem full_sub {m beat : Int} (m2 : 2 ≤ m) (m8 : m ≤ 8) (b0 : 0 ≤ beat) (b1 : beat < 900) {ls : List Lt3} (s : ls.Sublist (fullL m beat 31)) (l : ls.length ≤ 60) : GoodS m ls := by
  have pr : ∀ p ∈ pairL m, 0 ≤ p.1 ∧ p.1 < m ∧ 0 ≤ p.2 ∧ p.2 < m ∧ p.1 ≠ p.2 := fun p hp => by
    obtain ⟨k, hk, rfl⟩ := List.mem_map.mp hp
    have z := List.mem_range.mp hk
    simp only
    omega
  have nd : (pairL m).Pairwise fun p q => p ≠ q := by
    unfold pairL
    rw [List.pairwise_map]
    refine List.Pairwise.imp (fun {a b} h e => ?_) List.pairwise_lt_range
    simp only [Prod.mk.injEq] at e
    omega
  refine ⟨m2, m8, l, fun x hx => ?_, List.Pairwise.sublist s ?_, List.Pairwise.sublist s ?_⟩
  · obtain ⟨t, ht, hx⟩ := List.mem_flatMap.mp (s.subset hx)
    obtain ⟨p, hp, rfl⟩ := List.mem_map.mp hx
    have z := pr p hp
    have ht' := List.mem_range.mp ht
    exact ⟨⟨z.1, z.2.1⟩, ⟨z.2.2.1, z.2.2.2.1⟩, z.2.2.2.2, ⟨by simp only; omega, by simp only; omega⟩⟩
  · unfold fullL
    rw [List.pairwise_flatMap]
    refine ⟨fun t _ => ?_, List.Pairwise.imp (fun {b c} hbc x hx y hy => ?_) List.pairwise_lt_range⟩
    · rw [List.pairwise_map]
      exact List.Pairwise.imp (fun {a b} _ => Int.le_refl _) nd
    · obtain ⟨p, hp, rfl⟩ := List.mem_map.mp hx
      obtain ⟨q, hq, rfl⟩ := List.mem_map.mp hy
      simp only
      omega
  · unfold fullL
    rw [List.pairwise_flatMap]
    refine ⟨fun t _ => ?_, List.Pairwise.imp (fun {b c} hbc x hx y hy e => ?_) List.pairwise_lt_range⟩
    · rw [List.pairwise_map]
      refine List.Pairwise.imp (fun {a b} h e => h ?_) nd
      simp only [Prod.mk.injEq] at e
      exact Prod.ext e.1 e.2.1
    · obtain ⟨p, hp, rfl⟩ := List.mem_map.mp hx
      obtain ⟨q, hq, rfl⟩ := List.mem_map.mp hy
      simp only [Prod.mk.injEq] at e
      omega
def spFull : Sp := fun vs H Q _ => ∃ (a : Addr) (m : Int), vs = [.ref a, .int m] ∧ HandAt H a ∧ 2 ≤ m ∧ m ≤ 8 ∧
  ∀ H' b ls, HandAt H' a → cellsOf H' a = cellsOf H a → Same (delH H a) (delH H' a) → Dq (delH H' a) (.ref b) (.tuple (ls.map mkL)) → ls.length ≤ 62 → (ls.length ≤ 60 → GoodS m ls) → Q (.ref b) H'
theorem scFull : FnScope ["hand", "many", "rows", "found", "beat", "turn", "k", "one", "other", "old"] ["hand", "many"] (defScope s__law_full) := ⟨rfl, rfl, rfl, by decide +kernel, rfl, by decide +kernel, by decide +kernel⟩
end K08

set_option maxHeartbeats 4000000
namespace K08
open PySem PySem.Spec PyProof.Rows L2 V1 V2
open Evl (pss_cut tCut sq_of st_of)
def rAdd2 : R2 := rI0 fun i j => .int (i + j)
def rDiv2 : R2 := rI CDiv fun i j => .int (i / j)
def teFull1 : TE := tTup (tCons (tOp rAdd2 (tOp rDiv2 (tVar 6) (tC (.int 2))) (tOp rMod2 (tCB rInt1 (tCons (tVar 6) tNil)) (tC (.int 2)))) (tCons (tOp rSub2 (tOp rAdd2 (tOp rDiv2 (tVar 6) (tC (.int 2))) (tC (.int 1))) (tOp rMod2 (tCB rInt1 (tCons (tVar 6) tNil)) (tC (.int 2)))) (tCons (tC (.int 0)) tNil)))
def teFull2 : TE := tTup (tCons (tVar 7) (tCons (tVar 8) (tCons (tOp rAdd2 (tVar 4) (tVar 5)) tNil)))
theorem tup_off {H : Hp} {a b : Addr} {xs : List V} (h : HandAt H a) (e : H b = some (.tup xs)) : (delH H a) b = some (.tup xs) := by
  have ne : b ≠ a := fun z => by
    obtain ⟨c, cs, i1, i2, i3, i4, e1, _⟩ := h.ex
    rw [z, e1] at e
    cases e
  rw [delH_ne ne]
  exact e
theorem letter_at {H : Hp} {v : V} {l : Lt3} (h : Dq H v (mkL l)) : ∃ b, v = .ref b ∧ H b = some (.tup [.int l.1, .int l.2.1, .int l.2.2]) := by
  obtain ⟨b, us, rfl, hb, hr⟩ := Dq.tup_inv h
  cases hr with | @cons va _ _ _ qa r1 =>
  cases r1 with | @cons vb _ _ _ qb r2 =>
  cases r2 with | @cons vc _ _ _ qc r3 =>
  cases r3
  obtain rfl := Dq.int_inv qa
  obtain rfl := Dq.int_inv qb
  obtain rfl := Dq.int_inv qc
  exact ⟨b, rfl, hb⟩
theorem letters_off {H : Hp} {a : Addr} (h : HandAt H a) : ∀ {ls : List Lt3} {vs : List V}, DqAll H vs (ls.map mkL) → DqAll (delH H a) vs (ls.map mkL)
  | [], _, q => by
    cases q
    exact .nil
  | l :: ls, _, q => by
    cases q with
    | cons one more =>
      obtain ⟨b, rfl, e⟩ := letter_at one
      exact .cons (.tup (tup_off h e) (.cons (.int _) (.cons (.int _) (.cons (.int _) .nil)))) (letters_off h more)
section
variable {P : Program} {w : World} {K : PySem.W.Frag} {mg : Str → Option Value} {base : Heap}
theorem ok_full (T : Tx K mg) : Has P w K mg base CX0 3 "_law_full" ["hand", "many"] spFull := by
  obtain ⟨fd, F⟩ := T.c.def_ 23 (d := d__law_full) rfl
  have Hs := ok_some (P := P) (w := w) (base := base) T
  have Hd := ok_draw (P := P) (w := w) (base := base) T
  refine ⟨fd, F.ok scFull (fun vs H Q E h => ?_) (fun cdv A outer s H vs Q E hr h => ?_), FunD.bindsN F fun _ _ _ _ _ _ us hl => match us, hl with | [_, _], _ => rfl, F.kp, (T.glo 36 rfl)⟩
  · obtain ⟨a, m, rfl, _⟩ := h
    rfl
  · refine ⟨_, PSs.nox (pss_cons (ps_set (i := 2) scFull.nd rfl (Or.inl rfl) (pe_callTy call_tuple_of (by rfl) (T.free 55 rfl) (by decide +kernel) (pa_cons (pe_lc (own := [("k", 6)]) (g := gName 6) (tt := tYes) (te := teFull1) (by rfl) scFull.nd (pi_range1 (by rfl) (T.free 53 rfl) (pa_cons (pe_op op_sub (pe_op op_mul pe_int (pv 1)) pe_int) pa_nil))
 (blkOk_by (own := [("k", 6)]) (N := ["hand", "many", "rows", "found", "beat", "turn", "k", "one", "other", "old"]) (sc := defScope s__law_full) (by decide +kernel)) (fun _ _ _ _ _ => pg_name (i := 6) scFull.nd rfl (Or.inl rfl)) (fun _ _ _ _ _ => pts_nil) (fun _ _ _ _ _ => (pe_tup (pa_cons (pe_op op_add (pe_op op_fdiv (pv 6) pe_int) (pe_op op_mod (pe_callTy call_int1 (by rfl) (T.free 47 rfl) (by decide +kernel) (pa_cons (pv 6) pa_nil)) pe_int)) (pa_cons (pe_op op_sub (pe_op op_add (pe_op op_fdiv (pv 6) pe_int) pe_int) (pe_op op_mod (pe_callTy call_int1 (by rfl) (T.free 47 rfl) (by decide +kernel) (pa_cons (pv 6) pa_nil)) pe_int)) (pa_cons pe_int pa_nil)))))) pa_nil)))
 (pss_cons (ps_asg (pe_tup (pa_cons (pe_tup pa_nil) (pa_cons (pe_has Hd (hr.mono (by decide)) pass0 (pa_cons (pv 0) (pa_cons pe_int pa_nil))) pa_nil))) (pg_tup (by rfl) (pgs_cons (pg_name (i := 3) scFull.nd rfl (Or.inl rfl)) (pgs_cons (pg_name (i := 4) scFull.nd rfl (Or.inr rfl)) pgs_nil))))
 (pss_cons (ps_for PassesOwn.never rfl (pi_range1 (by rfl) (T.free 53 rfl) (pa_cons pe_int pa_nil)) (pg_name (i := 5) scFull.nd rfl (Or.inr rfl))
 (pss_one (ps_set (i := 3) scFull.nd rfl (Or.inl rfl) (pe_op op_catA (pv 3) (pe_callTy call_tuple_of (by rfl) (T.free 55 rfl) (by decide +kernel) (pa_cons (pe_lc (own := [("one", 7), ("other", 8), ("old", 9)]) (g := gTup K 3 (gCons (gName 7) (gCons (gName 8) (gCons (gName 9) gNil)))) (tt := tYes) (te := teFull2) (by rfl) scFull.nd (pi_tup (pv 2))
 (blkOk_by (own := [("one", 7), ("other", 8), ("old", 9)]) (N := ["hand", "many", "rows", "found", "beat", "turn", "k", "one", "other", "old"]) (sc := defScope s__law_full) (by decide +kernel)) (fun _ _ _ _ _ => pg_tup (by rfl) (pgs_cons (pg_name (i := 7) scFull.nd rfl (Or.inl rfl)) (pgs_cons (pg_name (i := 8) scFull.nd rfl (Or.inl rfl)) (pgs_cons (pg_name (i := 9) scFull.nd rfl (Or.inl rfl)) pgs_nil)))) (fun _ _ _ _ _ => pts_nil) (fun _ _ _ _ _ => (pe_tup (pa_cons (pv 7) (pa_cons (pv 8) (pa_cons (pe_op op_add (pv 4) (pv 5)) pa_nil)))))) pa_nil))))))
 (pss_one (ps_ret (pe_slice sl_tupA (pv 3) po_none (po_some (pe_has Hs (hr.mono (by decide)) pass0 (pa_cons (pv 0) (pa_cons (pe_lstS (pa_cons pe_int (pa_cons pe_int (pa_cons pe_int (pa_cons pe_int pa_nil))))) pa_nil)))))))))), ?_⟩
    obtain ⟨a, m, rfl, hd, m2, m8, hQ⟩ := h
    refine ⟨_, rfl, _, _, rfl, rfl, .inl ⟨by decide, by decide⟩, _, _, rfl, rfl, 2 * m - 2, rfl, by omega, by omega, fun D nD => ?_⟩
    refine lc_rows (K := K) (lo := 0) (n := (2 * m - 2).toNat) (σ := [some (.ref a), some (.int m), none, none, none, none, none, none, none, none]) (vs := [6]) (i0 := 6) (by omega) (fun i => mkL ((0 + (i : Int)) / 2 + (0 + (i : Int)) % 2, (0 + (i : Int)) / 2 + 1 - (0 + (i : Int)) % 2, 0)) nD (fun x => rfl) (fun i hi H1 sm hD Q1 k => ?_) (fun us H1 eD sm q => ?_)
    · exact ⟨_, rfl, _, _, rfl, rfl, ⟨by decide, by decide⟩, _, rfl, .inl ⟨_, rfl, _, _, rfl, rfl, (by show (0 : Int) < 2; decide), _, _, rfl, rfl, _, rfl, _, _, rfl, rfl, ⟨by decide, by decide⟩, _, _, rfl, rfl, _, rfl, .inl ⟨_, rfl, _, _, rfl, rfl, (by show (0 : Int) < 2; decide), _, _, rfl, rfl, mk3 hD k⟩⟩⟩
    refine ⟨D, us, rfl, .inl ⟨sq_of eD, fun l nl => ?_⟩⟩
    have e : (List.range (2 * m - 2).toNat).map (fun i : Nat => mkL ((0 + (i : Int)) / 2 + (0 + (i : Int)) % 2, (0 + (i : Int)) / 2 + 1 - (0 + (i : Int)) % 2, 0)) = ((pairL m).map fun p => ((p.1, p.2, 0) : Lt3)).map mkL := by
      unfold pairL
      rw [List.map_map, List.map_map]
      refine List.map_congr_left fun i _ => ?_
      simp [Function.comp]
    rw [e] at q
    have sl := same_new (o := HO.tup us) nl
    have s2 := sm.trans sl
    have q2 := DqAll.same sl _ _ q
    have el : (upd H1 l (HO.tup us)) l = some (.tup us) := upd_same
    generalize upd H1 l (HO.tup us) = H2 at s2 q2 el
    have lus : us.length = (pairL m).length := by rw [dqAll_len q2, List.length_map, List.length_map]
    have lpair : (pairL m).length = (2 * m - 2).toNat := by unfold pairL; rw [List.length_map, List.length_range]
    refine ⟨(by show 0 ≤ sizeLine; decide), fun p0 np0 => ⟨_, rfl, a, 900, rfl, hand_same hd (s2.trans (same_new np0)), by decide, by decide, fun H3 r hd3 e3 c3 r0 r1 => ⟨(by show 2 ≤ sizeLine; decide), fun pt npt => ⟨pt, _, rfl, st_of upd_same, rfl, _, _, rfl, _, _, rfl, rfl, ?_⟩⟩⟩⟩
    have s23 := s2.trans (same_new (o := HO.tup []) np0)
    have hdp := hand_same hd s23
    have sD3 : Same (delH H a) (delH H3 a) := by rw [e3]; exact same_del s23
    have c03 : cellsOf H3 a = cellsOf H a := c3.trans (cells_same hd s23)
    have el3 : H3 l = some (.tup us) := same_delH _ _ (by rw [e3]; exact tup_off hdp (same_new np0 _ _ el))
    have q3 : DqAll H3 us (((pairL m).map fun p => ((p.1, p.2, 0) : Lt3)).map mkL) := DqAll.same same_delH _ _ (by rw [e3]; exact letters_off hdp (DqAll.same (same_new np0) _ _ q2))
    have ep3 : H3 p0 = some (.tup []) := same_delH _ _ (by rw [e3]; exact tup_off hdp upd_same)
    have s33 := same_new (o := HO.tup [.ref p0, .int r]) npt
    replace c03 := (cells_same hd3 s33).trans c03
    replace sD3 := sD3.trans (same_del s33)
    replace el3 := s33 _ _ el3
    replace q3 := DqAll.same s33 _ _ q3
    replace ep3 := s33 _ _ ep3
    replace hd3 := hand_same hd3 s33
    clear e3 c3 npt
    generalize upd H3 pt (HO.tup [.ref p0, .int r]) = H3b at s33 c03 sD3 el3 q3 ep3 hd3
    refine ⟨31, rfl, by decide, by decide, for_it (walk_range (lo := 0) (n := 31)) (fun t σ H' => Same H3b H' ∧ ∃ f xs o5 o6 o7 o8 o9, σ = [some (.ref a), some (.int m), some (.ref l), some (.ref f), some (.int r), o5, o6, o7, o8, o9] ∧ H' f = some (.tup xs) ∧ DqAll H' xs ((fullL m r t).map mkL)) ⟨Same.refl _, p0, [], _, _, _, _, _, rfl, ep3, .nil⟩ (fun _ _ _ _ _ => True.intro) ?_ ?_⟩
    · rintro t x σ H4 H5 ht ⟨s4, f, xs, o5, o6, o7, o8, o9, rfl, ef, df⟩ ⟨rfl, rfl⟩
      have lf : (fullL m r t).length ≤ 31 * 14 := by
        unfold fullL
        rw [List.length_flatMap]
        simp only [List.length_map, lpair]
        rw [List.map_const', List.sum_replicate_nat, List.length_range]
        exact Nat.mul_le_mul (by omega) (by omega)
      refine ⟨_, rfl, _, rfl, l, rfl, ⟨_, st_of (s4 _ _ el3)⟩, fun D nD => ?_⟩
      refine lc_gen (σ := [some (.ref a), some (.int m), some (.ref l), some (.ref f), some (.int r), some (.int (0 + (t : Nat))), o6, o7, o8, o9]) (vs := [7, 8, 9]) (walk_tup (K := K) (a := l) (xs := us)) nD (fun i acc H' => Same H5 H' ∧ DqAll H' acc ((((pairL m).take i).map fun p => ((p.1, p.2, r + (0 + (t : Int))) : Lt3)).map mkL)) ⟨Same.refl _, .nil⟩ (fun i acc H' _ z => st_of (same_delH _ _ (z.1 _ _ (s4 _ _ el3)))) ?_ ?_
      · rintro i acc x H6 H7 hi la e ⟨sm6, qa⟩ ⟨rfl, hx⟩
        have hi' : i < (pairL m).length := by omega
        have up6 : Same H5 H7 := fun b o ob => same_delH _ _ (sm6 _ _ ob)
        have dx : Dq H7 x (mkL ((pairL m)[i].1, (pairL m)[i].2, 0)) := Dq.same (s4.trans up6) _ _ (DqAll.at q3 hx (by rw [List.getElem?_map, List.getElem?_map, List.getElem?_eq_getElem hi']; rfl))
        obtain ⟨b, rfl, eb⟩ := letter_at dx
        refine ⟨b, _, rfl, st_of eb, rfl, _, _, rfl, _, _, rfl, _, _, rfl, rfl, rfl, ?_⟩
        simp only [tYes, if_true]
        refine ⟨_, rfl, _, rfl, _, rfl, _, rfl, _, _, rfl, rfl, (by show 3 ≤ sizeLine; decide), fun p np => ?_⟩
        have s8 := same_new (o := HO.tup [.int (pairL m)[i].1, .int (pairL m)[i].2, .int (r + (0 + (t : Int)))]) np
        have d8 : Dq (delH (upd H7 p (HO.tup [.int (pairL m)[i].1, .int (pairL m)[i].2, .int (r + (0 + (t : Int)))])) D) (.ref p) (mkL ((pairL m)[i].1, (pairL m)[i].2, r + (0 + (t : Int)))) :=
          .tup (by rw [delH_ne (Ne.symm (ne_of_none e np))]; exact upd_same) (.cons (.int _) (.cons (.int _) (.cons (.int _) .nil)))
        refine lc_put la (by omega) (s8 _ _ e) ⟨sm6.trans (same_del s8), ?_⟩
        have tk : (pairL m).take (i + 1) = (pairL m).take i ++ [(pairL m)[i]] := by rw [List.take_succ, List.getElem?_eq_getElem hi']; rfl
        rw [tk, List.map_append, List.map_append]
        exact DqAll.app (DqAll.same (same_del s8) _ _ qa) (.cons d8 .nil)
      · rintro acc H6 la e ⟨sm6, qa⟩
        have up6 : Same H5 H6 := fun b o ob => same_delH _ _ (sm6 _ _ ob)
        rw [List.take_of_length_le (by omega)] at qa
        refine ⟨D, acc, rfl, .inl ⟨sq_of e, fun l2 nl2 => ?_⟩⟩
        have s7 := up6.trans (same_new (o := HO.tup acc) nl2)
        have lxs : xs.length = (fullL m r t).length := by rw [dqAll_len df, List.length_map]
        refine catA_go (s7 _ _ ef) upd_same (by omega) fun g H8 s8 e8 => ?_
        refine ⟨(s4.trans s7).trans s8, g, _, _, _, _, _, _, rfl, e8, ?_⟩
        have z : fullL m r (t + 1) = fullL m r t ++ (pairL m).map fun p => ((p.1, p.2, r + (0 + (t : Int))) : Lt3) := by
          unfold fullL
          rw [List.range_succ, List.flatMap_append, List.flatMap_cons, List.flatMap_nil, List.append_nil]
          simp
        rw [z, List.map_append]
        exact DqAll.app (DqAll.same (s7.trans s8) _ _ df) (DqAll.same ((same_new nl2).trans s8) _ _ (DqAll.same same_delH _ _ qa))
    · rintro σ H4 ⟨s4, f, xs, o5, o6, o7, o8, o9, rfl, ef, df⟩
      have hd4 := hand_same hd3 s4
      refine ⟨_, rfl, _, rfl, (by show 4 ≤ sizeLine; decide), fun q nq _ => ?_⟩
      have sq4 := same_new (o := HO.lst [.int 60, .int 60, .int 61, .int 62]) nq
      have nqa : q ≠ a := fun z => by
        obtain ⟨o, e⟩ := hd4.held
        rw [z, e] at nq
        cases nq
      refine ⟨a, q, [.int 60, .int 60, .int 61, .int 62], rfl, hand_same hd4 sq4, upd_same, nqa, by decide, by decide, fun H5 i v hd5 e5 c5 ev => ?_⟩
      obtain ⟨z, rfl, z0, zm⟩ := pos_of (xs := [60, 60, 61, 62]) ev (by decide)
      have z6 : 60 ≤ z ∧ z ≤ 62 := by
        simp only [List.mem_cons, List.not_mem_nil, or_false] at zm
        omega
      obtain ⟨j, rfl⟩ := Int.eq_ofNat_of_zero_le z0
      have fin5 : (delH H5 a) f = some (.tup xs) := by rw [e5]; exact tup_off (hand_same hd4 sq4) (sq4 _ _ ef)
      have df5 : DqAll (delH H5 a) xs ((fullL m r 31).map mkL) := by rw [e5]; exact letters_off (hand_same hd4 sq4) (DqAll.same sq4 _ _ df)
      have lxs : xs.length = (fullL m r 31).length := by rw [dqAll_len df5, List.length_map]
      have sD5 : Same (delH H a) (delH H5 a) := by rw [e5]; exact sD3.trans (same_del (s4.trans sq4))
      have c05 : cellsOf H5 a = cellsOf H a := c5.trans ((cells_same hd4 sq4).trans ((cells_same hd3 s4).trans c03))
      refine ⟨_, rfl, f, xs, rfl, st_of (same_delH _ _ fin5), fun whole => ?_, fun part p np => ?_⟩
      · have w2 := whole.2
        rw [HT.sIx_nat] at w2
        exact hQ H5 f (fullL m r 31) hd5 c05 sD5 (.tup fin5 df5) (by omega) fun l60 => full_sub m2 m8 r0 r1 (List.Sublist.refl _) l60
      · have cut : cutV xs none (some ((j : Nat) : Int)) = xs.take j := by
          unfold cutV
          rw [HT.sIx_none, HT.sIx_nat, List.drop_zero, Nat.sub_zero]
          by_cases c : j ≤ xs.length
          · rw [Nat.min_eq_left c]
          · rw [Nat.min_eq_right (by omega), List.take_of_length_le (Nat.le_refl _), List.take_of_length_le (by omega)]
        rw [cut]
        have s6 := same_new (o := HO.tup (xs.take j)) np
        refine hQ _ p ((fullL m r 31).take j) (hand_same hd5 s6) ((cells_same hd5 s6).trans c05) (sD5.trans (same_del s6)) (.tup (tup_off (hand_same hd5 s6) upd_same) ?_) (by rw [List.length_take]; omega) fun l60 => full_sub m2 m8 r0 r1 (List.take_sublist _ _) l60
        rw [List.map_take]
        exact DqAll.same (same_del s6) _ _ (DqAll.take j df5)
end
end K08

set_option maxHeartbeats 4000000
namespace V2
open PySem PySem.Spec PyProof.Rows L2 V1
/-- list(x), the new place not that of the modules -/
theorem call_list_low {X : Cx} : CallR X (.type "list") (fun xs H Q => ∃ p ys, xs = [.ref p] ∧ (SqL X.K H p ys ∨ SqT X.K H p ys) ∧ ∀ l, H l = none → (l == sysModules) = false → Q (.ref l) (upd H l (.lst ys))) := by
  rintro pins s σ H xs us Q I r ⟨p, ys, rfl, hq, q⟩
  obtain ⟨u, rfl, rx⟩ := vals1 r
  cases rx
  have src : ∃ (zs : List Value) (T : String) (o : Obj) (n : Nat), Vals ys zs ∧ ys.length ≤ sizeLine ∧ (T = "list" ∨ T = "tuple") ∧ s.heap.get? p = some o ∧ o.cls = .type T ∧ o.data = .seq zs.toArray n := by
    rcases hq with hq | hq
    · obtain ⟨zs, w, pl, z⟩ := I.list hq
      obtain ⟨o, e, c, n, d⟩ := pl.isList
      exact ⟨zs, _, o, n, w, z, .inl rfl, e, c, d⟩
    · obtain ⟨zs, w, pl, z⟩ := I.tuple hq
      obtain ⟨o, e, c, n, d⟩ := pl
      exact ⟨zs, _, o, n, w, z, .inr rfl, e, c, d⟩
  obtain ⟨zs, T, o, n, w, z, hT, e, c, d⟩ := src
  have lz := w.length
  refine call_list_seq p hT e c d (fun h1 c1 kp eh => ?_) (by simp only [List.size_toArray]; omega)
  exact ⟨.ref s.heap.objs.size, _, I.laid (o := .lst ys) (t' := s.toks) kp (Nat.le_refl _) ⟨z, zs, c1, w, eh⟩, rfl, q _ (I.hok.fresh (Nat.le_refl _)) (beq_eq_false_iff_ne.mpr (Nat.ne_of_gt I.big))⟩
theorem DqAll.insAt {H : Hp} {vs : List V} {ds : List PyData} {v : V} {d : PyData} (h : DqAll H vs ds) (hv : Dq H v d) (i : Nat) : DqAll H (vs.take i ++ [v] ++ vs.drop i) (ds.take i ++ [d] ++ ds.drop i) :=
  DqAll.app (DqAll.app (DqAll.take i h) (.cons hv .nil)) (K08.DqAll.drop i h)
theorem DqAll.erase {H : Hp} : ∀ {vs : List V} {ds : List PyData} (n : Nat), DqAll H vs ds → DqAll H (vs.eraseIdx n) (ds.eraseIdx n)
  | _, _, _, .nil => .nil
  | _, _, 0, .cons _ more => more
  | _, _, n + 1, .cons one more => .cons one (DqAll.erase n more)
theorem DqAll.put {H : Hp} {v : V} {d : PyData} (hv : Dq H v d) : ∀ {vs : List V} {ds : List PyData} (n : Nat), DqAll H vs ds → DqAll H (vs.set n v) (ds.set n d)
  | _, _, _, .nil => .nil
  | _, _, 0, .cons _ more => .cons hv more
  | _, _, n + 1, .cons one more => .cons one (DqAll.put hv n more)
end V2
namespace K08
open PySem PySem.Spec PyProof.Rows L2 V1 V2
/-- the hand at a, a list of data at f, all else as in H0 -/
structure LD (H0 : Hp) (a f c : Addr) (ds : List PyData) (H : Hp) : Prop where
  hd : HandAt H a
  ce : cellsOf H a = some (.ref c)
  sm : Same (delH H0 a) (delH (delH H a) f)
  at_ : ∃ acc, H f = some (.lst acc) ∧ DqAll (delH (delH H a) f) acc ds
theorem LD.draw {H0 H H' : Hp} {a f c : Addr} {ds : List PyData} (h : LD H0 a f c ds H) (na : f ≠ a) (h1 : HandAt H' a) (h2 : delH H' a = delH H a) (h3 : cellsOf H' a = cellsOf H a) : LD H0 a f c ds H' := by
  obtain ⟨acc, e, d⟩ := h.at_
  refine ⟨h1, h3.trans h.ce, by rw [h2]; exact h.sm, acc, ?_, by rw [h2]; exact d⟩
  have z := congrFun h2 f
  rw [delH_ne na, delH_ne na] at z
  exact z.trans e
theorem LD.new {H0 H H' : Hp} {a f c : Addr} {ds : List PyData} (h : LD H0 a f c ds H) (s : Same H H') : LD H0 a f c ds H' := by
  obtain ⟨acc, e, d⟩ := h.at_
  exact ⟨hand_same h.hd s, (cells_same h.hd s).trans h.ce, h.sm.trans (same_del (same_del s)), acc, s _ _ e, DqAll.same (same_del (same_del s)) _ _ d⟩
theorem LD.put {H0 H : Hp} {a f c : Addr} {ds ds' : List PyData} {acc' : List V} (h : LD H0 a f c ds H) (na : f ≠ a) (nc : c ≠ f) (d : DqAll (delH (delH H a) f) acc' ds') :
    LD H0 a f c ds' (upd H f (.lst acc')) := by
  have o := h.hd.off h.ce nc na
  refine ⟨?_, ?_, ?_, acc', upd_same, ?_⟩
  · have z : HandAt (delH (upd H f (.lst acc')) f) a := by rw [delH_upd]; exact o
    exact hand_same z same_delH
  · have z := h.ce
    unfold cellsOf at z ⊢
    rw [upd_ne (Ne.symm na)]
    exact z
  · rw [del2_upd]
    exact h.sm
  · rw [del2_upd]
    exact d
theorem LD.held {H0 H : Hp} {a f c : Addr} {ds : List PyData} (h : LD H0 a f c ds H) : Held H f := by
  obtain ⟨acc, e, _⟩ := h.at_
  exact ⟨_, e⟩
end K08

set_option maxHeartbeats 4000000
namespace K08
open PySem PySem.Spec PyProof.Rows L2 V1 V2
open Evl (pss_cut tCut sq_of st_of)
theorem K_at {H : Hp} {a f q : Addr} {o : HO} (h : delH (delH H a) f q = some o) : q ≠ a ∧ q ≠ f ∧ H q = some o := by
  have nf : q ≠ f := fun z => by
    rw [z, delH_same] at h
    cases h
  rw [delH_ne nf] at h
  have na : q ≠ a := fun z => by
    rw [z, delH_same] at h
    cases h
  rw [delH_ne na] at h
  exact ⟨na, nf, h⟩
theorem K_up {H : Hp} {a f : Addr} : Same (delH (delH H a) f) H := same_delH.trans same_delH
theorem mkn_deep {E : XK} {σ : L2.St} (k : Int) : MkN (tCall spDeep [] E (tCons (tC (.int k)) tNil)) σ (deepD k 36) := fun H Q q => ⟨k, rfl, fun v H' s d => q v H' s d⟩
theorem DqAll.some {H : Hp} : ∀ {vs : List V} {ds : List PyData} {i : Nat} {v : V}, DqAll H vs ds → vs[i]? = some v → ∃ d, d ∈ ds ∧ Dq H v d
  | _, _, 0, _, .cons one _, h => ⟨_, List.mem_cons_self, Option.some.inj h ▸ one⟩
  | _, _, i + 1, _, .cons _ more, h => by
    obtain ⟨d, m, q⟩ := DqAll.some (i := i) more h
    exact ⟨d, List.mem_cons_of_mem _ m, q⟩
theorem ixN_nat {n j : Nat} (h : j < n) : ixN n ((j : Nat) : Int) = some j := by
  unfold ixN
  rw [if_pos (by omega), if_pos (by omega), Int.toNat_natCast]
theorem mkn_neg {σ : L2.St} (k : Int) : MkN (tUn (rU fun i => V.int (-i)) (tC (.int k))) σ (.int (-k)) := fun H _ q => ⟨k, rfl, q _ H (Same.refl H) (.int _)⟩
theorem mkn_pow {σ : L2.St} : MkN (tOp (rI CPow fun i j => V.int (i ^ j.toNat)) (tC (.int 10)) (tC (.int 19))) σ (.int (10 ^ 19)) := fun H _ q => ⟨10, 19, rfl, rfl, ⟨by decide, by decide, by decide⟩, q _ H (Same.refl H) (.int _)⟩
theorem K_tup {H : Hp} {a f b : Addr} {acc xs : List V} (h : HandAt H a) (ef : H f = some (.lst acc)) (e : H b = some (.tup xs)) : delH (delH H a) f b = some (.tup xs) := by
  have nb : b ≠ f := fun z => by
    rw [z, ef] at e
    cases e
  rw [delH_ne nb]
  exact tup_off h e
def teOdds (K : PySem.W.Frag) : TE := tLstS (tCons (tUn (rU fun i => V.int (-i)) (tC (.int 1))) (tCons (tC (.int 1)) (tCons (tC (.int 0)) (tCons (tC (.bl true)) (tCons (tC (.bl false)) (tCons (tC .non) (tCons (tC (.str (Str.ofString "0"))) (tCons (tVar 1) (tCons (tOp (rI0 fun i j => V.int (i - j)) (tVar 1) (tC (.int 1))) (tCons (tC (.int 999)) (tCons (tC (.int 1000)) (tCons (tOp (rI CPow fun i j => V.int (i ^ j.toNat)) (tC (.int 10)) (tC (.int 19))) (tCons (tTup (tCons (tC (.int 0)) tNil)) (tCons (tLstS (tCons (tC (.int 0)) tNil)) (tCons (tOp (rIxT K) (tVar 6) (tC (.int 0))) (tCons (tOp (rIxT K) (tVar 6) (tC (.int 1))) (tCons (tOp (rIxT K) (tVar 6) (tC (.int 2))) tNil)))))))))))))))))
def odds (m : Int) (x0 x1 x2 : PyData) : List PyData := [.int (-1), .int 1, .int 0, .bool true, .bool false, .none, .str "0", .int m, .int (m - 1), .int 999, .int 1000, .int (10 ^ 19), .tuple [.int 0], .list [.int 0], x0, x1, x2]
theorem mkr_odds {K : PySem.W.Frag} {σ : L2.St} {H0 : Hp} {a f o : Addr} {m : Int} {v0 v1 v2 : V} {x0 x1 x2 : PyData} (ha : Held H0 a) (hf : Held H0 f) (h1 : σ[1]? = some (some (.int m))) (h6 : σ[6]? = some (some (.ref o))) (eo : H0 o = some (.tup [v0, v1, v2]))
    (q0 : Dq (delH (delH H0 a) f) v0 x0) (q1 : Dq (delH (delH H0 a) f) v1 x1) (q2 : Dq (delH (delH H0 a) f) v2 x2) : MkR H0 a f (teOdds K) σ (.list (odds m x0 x1 x2)) :=
  mkr_lst ha hf (mkra_cons (mkr_new ha hf (mkn_neg 1))
    (mkra_cons (mkr_new ha hf (mkn_int 1))
    (mkra_cons (mkr_new ha hf (mkn_int 0))
    (mkra_cons (mkr_new ha hf (mkn_bl true))
    (mkra_cons (mkr_new ha hf (mkn_bl false))
    (mkra_cons (mkr_new ha hf mkn_non)
    (mkra_cons (mkr_new ha hf (mkn_str "0"))
    (mkra_cons (mkr_old (v := .int m) (.int m) fun H s Q q => ⟨_, h1, q⟩)
    (mkra_cons (mkr_old (v := .int (m - 1)) (.int _) fun H s Q q => ⟨_, h1, _, _, rfl, rfl, q⟩)
    (mkra_cons (mkr_new ha hf (mkn_int 999))
    (mkra_cons (mkr_new ha hf (mkn_int 1000))
    (mkra_cons (mkr_new ha hf mkn_pow)
    (mkra_cons (mkr_new ha hf (mkn_tup (mkna_cons (mkn_int 0) mkna_nil) (by show 1 ≤ 1000; decide)))
    (mkra_cons (mkr_new ha hf (mkn_lst (mkna_cons (mkn_int 0) mkna_nil) (by show 1 ≤ 1000; decide)))
    (mkra_cons (mkr_old q0 fun H s Q q => ⟨_, h6, o, [v0, v1, v2], 0, v0, rfl, rfl, st_of (s _ _ eo), rfl, q⟩)
    (mkra_cons (mkr_old q1 fun H s Q q => ⟨_, h6, o, [v0, v1, v2], 1, v1, rfl, rfl, st_of (s _ _ eo), rfl, q⟩)
    (mkra_cons (mkr_old q2 fun H s Q q => ⟨_, h6, o, [v0, v1, v2], 2, v2, rfl, rfl, st_of (s _ _ eo), rfl, q⟩)
    mkra_nil))))))))))))))))) (by show 17 ≤ 1000; decide)
theorem isT_tuple {d : PyData} (h : isTup d = true) : ∃ ds, d = .tuple ds := by
  cases d <;> first | exact ⟨_, rfl⟩ | cases h
theorem number_int {d : PyData} {m : Int} (h : V2.fromTo 0 m d = true) : ∃ i : Int, d = .int i ∧ 0 ≤ i ∧ i ≤ m := by
  cases d with
  | int i => exact ⟨i, rfl, by simpa [V2.fromTo] using h⟩
  | _ => cases h
def spSp : Sp := fun vs H Q _ => ∃ (a b : Addr) (m : Int) (ds : List PyData), vs = [.ref a, .int m, .ref b] ∧ HandAt H a ∧ Dq (delH H a) (.ref b) (.tuple ds) ∧ 0 < ds.length ∧ ds.length ≤ 500 ∧
  ∀ H' b' ds', HandAt H' a → cellsOf H' a = cellsOf H a → Same (delH H a) (delH H' a) → Dq (delH H' a) (.ref b') (.tuple ds') → ds'.length ≤ ds.length + 1 → Q (.ref b') H'
theorem scSp : FnScope ["hand", "many", "letters", "rows", "kind", "at", "one", "odd", "place", "part"] ["hand", "many", "letters"] (defScope s__law_spoilt) := ⟨rfl, rfl, rfl, by decide +kernel, rfl, by decide +kernel, by decide +kernel⟩
section
variable {P : Program} {w : World} {K : PySem.W.Frag} {mg : Str → Option Value} {base : Heap}
theorem ok_sp (T : Tx K mg) : Has P w K mg base CX0 3 "_law_spoilt" ["hand", "many", "letters"] spSp := by
  obtain ⟨fd, F⟩ := T.c.def_ 22 (d := d__law_spoilt) rfl
  have Hs := ok_some (P := P) (w := w) (base := base) T
  have Hd := ok_draw (P := P) (w := w) (base := base) T
  have Hp := ok_deep (P := P) (w := w) (base := base) T
  have Hn := ok_number (P := P) (w := w) (base := base) T
  refine ⟨fd, F.ok scSp (fun vs H Q E h => ?_) (fun cdv A outer s H vs Q E hr h => ?_), FunD.bindsN F fun _ _ _ _ _ _ us hl => match us, hl with | [_, _, _], _ => rfl, F.kp, (T.glo 35 rfl)⟩
  · obtain ⟨a, b, m, ds, rfl, _⟩ := h
    rfl
  · refine ⟨_, PSs.nox (pss_cons (ps_par3 (i := 3) (j := 4) (l := 5) rfl scSp.nd rfl rfl rfl (by decide) (by decide) (by decide) rfl rfl rfl (pa_cons (pe_callTy call_list_low (by rfl) (T.free 50 rfl) (by decide +kernel) (pa_cons (pv 2) pa_nil)) (pa_cons (pe_has Hd (hr.mono (by decide)) pass0 (pa_cons (pv 0) (pa_cons pe_int pa_nil))) (pa_cons (pe_has Hd (hr.mono (by decide)) pass0 (pa_cons (pv 0) (pa_cons (pe_callB call_len (by rfl) (T.free 49 rfl) PySem.boot_len (pa_cons (pv 2) pa_nil)) pa_nil))) pa_nil))) (by rfl))
 (pss_cons (ps_set (i := 6) scSp.nd rfl (Or.inl rfl) (pe_ix ix_list (pv 3) (pv 5) (fun _ _ => rfl)))
 (pss_cut (ps_if (pt_cmpR op_eq (pv 4) pe_int (nomark _))
 (pss_one (ps_asg (pe_has Hs (hr.mono (by decide)) pass0 (pa_cons (pv 0) (pa_cons (pe_lstS (pa_cons pe_non (pa_cons pe_int (pa_cons pe_str (pa_cons (pe_lstS pa_nil) (pa_cons (pe_tup pa_nil) (pa_cons (pe_tup (pa_cons pe_int (pa_cons pe_int pa_nil))) (pa_cons (pe_tup (pa_cons pe_int (pa_cons pe_int (pa_cons pe_int (pa_cons pe_int pa_nil))))) (pa_cons (pe_has Hp (hr.mono (by decide)) pass0 (pa_cons pe_int pa_nil)) (pa_cons (pe_has Hp (hr.mono (by decide)) pass0 (pa_cons pe_int pa_nil)) (pa_cons pe_dnewK pa_nil))))))))))) pa_nil))) (pg_sub (pv 3) (pv 5) set_list)))
 (pss_one (ps_if (pt_cmpR op_eq (pv 4) pe_int (nomark _))
 (pss_one (ps_expr (pe_bm PySem.F.plainAttrs_list PySem.F.slot_list_insert PySem.F.type_list_insert mt_insert (pv 3) (pa_cons (pe_has Hd (hr.mono (by decide)) pass0 (pa_cons (pv 0) (pa_cons (pe_op op_add (pe_callB call_len (by rfl) (T.free 49 rfl) PySem.boot_len (pa_cons (pv 3) pa_nil)) pe_int) pa_nil))) (pa_cons (pv 6) pa_nil)))))
 (pss_one (ps_if (pt_cmpR op_eq (pv 4) pe_int (nomark _))
 (pss_cons (ps_expr (pe_bm PySem.F.plainAttrs_list PySem.F.slot_list_pop PySem.F.type_list_pop mt_popAt (pv 3) (pa_cons (pv 5) pa_nil)))
 (pss_one (ps_expr (pe_bm PySem.F.plainAttrs_list PySem.F.slot_list_insert PySem.F.type_list_insert mt_insert (pv 3) (pa_cons (pe_has Hd (hr.mono (by decide)) pass0 (pa_cons (pv 0) (pa_cons (pe_op op_add (pe_callB call_len (by rfl) (T.free 49 rfl) PySem.boot_len (pa_cons (pv 3) pa_nil)) pe_int) pa_nil))) (pa_cons (pv 6) pa_nil))))))
 (pss_one (ps_if (PW.pt (pw_and (pt_val (pe_callB call_isi (by rfl) (T.free 48 rfl) (by decide +kernel) (pa_cons (pv 6) (pa_cons (pe_bltn (v := .ty "tuple") (by rfl) (T.free 55 rfl) (by decide +kernel) rfl) pa_nil)))) (pw_and1 (pt_cmpR op_eq (pe_callB call_len (by rfl) (T.free 49 rfl) PySem.boot_len (pa_cons (pv 6) pa_nil)) pe_int (nomark _)))))
 (pss_cons (ps_set (i := 7) scSp.nd rfl (Or.inl rfl) (pe_lstS (pa_cons (pe_un un_neg pe_int) (pa_cons pe_int (pa_cons pe_int (pa_cons pe_bl (pa_cons pe_bl (pa_cons pe_non (pa_cons pe_str (pa_cons (pv 1) (pa_cons (pe_op op_sub (pv 1) pe_int) (pa_cons pe_int (pa_cons pe_int (pa_cons (pe_op op_pow pe_int pe_int) (pa_cons (pe_tup (pa_cons pe_int pa_nil)) (pa_cons (pe_lstS (pa_cons pe_int pa_nil)) (pa_cons (pe_ix ix_tup (pv 6) pe_int (fun _ _ => rfl)) (pa_cons (pe_ix ix_tup (pv 6) pe_int (fun _ _ => rfl)) (pa_cons (pe_ix ix_tup (pv 6) pe_int (fun _ _ => rfl)) pa_nil)))))))))))))))))))
 (pss_cons (ps_set (i := 8) scSp.nd rfl (Or.inl rfl) (pe_has Hd (hr.mono (by decide)) pass0 (pa_cons (pv 0) (pa_cons pe_int pa_nil))))
 (pss_cons (ps_set (i := 9) scSp.nd rfl (Or.inl rfl) (pe_has Hs (hr.mono (by decide)) pass0 (pa_cons (pv 0) (pa_cons (pv 7) pa_nil))))
 (pss_cut (ps_if (PW.pt (pw_and (pt_cmpR op_eq (pv 4) pe_int (nomark _)) (pw_and1 (pt_val (pe_has Hn (hr.mono (by decide)) pass0 (pa_cons (pe_ix ix_tup (pv 6) pe_int (fun _ _ => rfl)) (pa_cons pe_int pa_nil)))))))
 (pss_one (ps_par (i := 8) (j := 9) rfl scSp.nd rfl rfl (by decide) rfl rfl (pa_cons pe_int (pa_cons (pe_op op_add (pe_ix ix_tup (pv 6) pe_int (fun _ _ => rfl)) (pe_has Hs (hr.mono (by decide)) pass0 (pa_cons (pv 0) (pa_cons (pe_lstS (pa_cons (pe_un un_neg pe_int) (pa_cons pe_int (pa_cons pe_int (pa_cons (pe_un un_neg pe_int) pa_nil))))) pa_nil)))) pa_nil)) (by rfl)))
 pss_nil)
 (pss_cons (ps_asg (pe_op op_catA (pe_op op_catA (pe_slice sl_tupA (pv 6) po_none (po_some (pv 8))) (pe_tup (pa_cons (pv 9) pa_nil))) (pe_slice sl_tupA (pv 6) (po_some (pe_op op_add (pv 8) pe_int)) po_none)) (pg_sub (pv 3) (pv 5) set_list))
 (pss_one (ps_if (pt_cmpR op_eq (pv 4) pe_int (nomark _))
 (pss_one (ps_asg (pe_callTy call_list_low (by rfl) (T.free 50 rfl) (by decide +kernel) (pa_cons (pv 6) pa_nil)) (pg_sub (pv 3) (pv 5) set_list)))
 pss_nil)))))))
 pss_nil)))))))
 (pss_one (ps_ret (pe_callTy call_tuple_of (by rfl) (T.free 55 rfl) (by decide +kernel) (pa_cons (pv 3) pa_nil))))))), ?_⟩
    obtain ⟨a, b, m, ds, rfl, hd, hv, n0, n5, hQ⟩ := h
    obtain ⟨c, cs, hce, nca, hc⟩ := hd.cells
    have hold := hd.held
    obtain ⟨b', us, eb, hb, hr'⟩ := Dq.tup_inv hv
    cases eb
    have lus : us.length = ds.length := dqAll_len hr'
    refine ⟨_, rfl, b, us, rfl, .inr (st_of (same_delH _ _ hb)), fun f nf _ => ?_⟩
    have nfa : f ≠ a := fun z => by
      obtain ⟨o, e⟩ := hold
      rw [z, e] at nf
      cases nf
    have nc : c ≠ f := fun z => by
      rw [← z, hc] at nf
      cases nf
    have sf := same_new (o := HO.lst us) nf
    have sK : Same (delH H a) (delH (delH (upd H f (HO.lst us)) a) f) := fun x o e => by
      by_cases z : x = a
      · rw [z, delH_same] at e
        cases e
      · rw [delH_ne z] at e
        have nb := ne_of_none e nf
        rw [delH_ne nb, delH_ne z, upd_ne nb]
        exact e
    have L0 : LD H a f c ds (upd H f (HO.lst us)) := ⟨hand_same hd sf, (cells_same hd sf).trans hce, sK, us, upd_same, DqAll.same sK _ _ hr'⟩
    refine ⟨_, rfl, a, 8, rfl, L0.hd, by decide, by decide, fun H1 kd hd1 e1 c1 k0 k1 => ?_⟩
    have L1 := L0.draw nfa hd1 e1 c1
    refine ⟨_, rfl, _, rfl, _, _, rfl, .inr ⟨us, st_of (K_up _ _ (L1.sm _ _ hb)), rfl⟩, a, _, rfl, L1.hd, by omega, by omega, fun H2 at' hd2 e2 c2 t0 t1 => ?_⟩
    have L2' := L1.draw nfa hd2 e2 c2
    obtain ⟨j, rfl⟩ := Int.eq_ofNat_of_zero_le t0
    refine ⟨_, _, _, rfl, ?_⟩
    obtain ⟨acc, ea, da⟩ := L2'.at_
    have lacc : acc.length = ds.length := dqAll_len da
    have hj : j < acc.length := by omega
    have oj : acc[j]? = some acc[j] := List.getElem?_eq_getElem hj
    have dj : ds[j]? = some ds[j] := List.getElem?_eq_getElem (by omega)
    have d1 := DqAll.at da oj dj
    refine ⟨_, rfl, _, rfl, f, acc, _, _, rfl, rfl, sq_of ea, atI_nat oj, ?_⟩
    generalize acc[j] = one at oj d1
    generalize ds[j] = od at dj d1
    clear L0 L1 e1 c1 hd1 e2 c2 hd2 sK
    refine ⟨fun σ H3 => ∃ ds' o7 o8 o9, σ = [some (.ref a), some (.int m), some (.ref b), some (.ref f), some (.int kd), some (.int ((j : Nat) : Int)), some one, o7, o8, o9] ∧ LD H a f c ds' H3 ∧ ds'.length ≤ ds.length + 1, ?_, ?_⟩
    · -- rows.insert(draw(hand, len(rows) + 1), one)
      have hold2 := L2'.hd.held
      have hf2 := L2'.held

      refine ⟨_, rfl, rfl, _, rfl, ite2 (fun e => ?_) (fun e => ?_)⟩
      · refine ⟨_, rfl, ?_⟩
        refine (mkn_lst (mkna_cons mkn_non (mkna_cons (mkn_int 0) (mkna_cons (mkn_str "abc") (mkna_cons (mkn_lst mkna_nil (Nat.zero_le _)) (mkna_cons (mkn_tup mkna_nil (Nat.zero_le _)) (mkna_cons (mkn_tup (mkna_cons (mkn_int 0) (mkna_cons (mkn_int 1) mkna_nil)) (by show 2 ≤ 1000; decide)) (mkna_cons (mkn_tup (mkna_cons (mkn_int 0) (mkna_cons (mkn_int 1) (mkna_cons (mkn_int 0) (mkna_cons (mkn_int 0) mkna_nil)))) (by show 4 ≤ 1000; decide)) (mkna_cons (mkn_deep 1) (mkna_cons (mkn_deep 0) (mkna_cons mkn_dict0 mkna_nil)))))))))) (by show 10 ≤ 1000; decide)) H2 _ fun v H3 s3 q3 => ?_
        have L3 := L2'.new s3
        have q3' := Dq.same (newH_off2 (H := H3) hold2 hf2) _ _ q3
        cases q3' with | lst at_ low rest =>
        obtain ⟨nqa, nqf, eq⟩ := K_at at_
        have lr := dqAll_len rest
        refine ⟨a, _, _, rfl, L3.hd, eq, nqa, by rw [lr]; (show 0 < 10; decide), by rw [lr]; (show 10 < 1000; decide), fun H4 i v hd4 e4 c4 ev => ?_⟩
        have L4 := L3.draw nfa hd4 e4 c4
        obtain ⟨d, _, dv⟩ := DqAll.some rest ev
        have dv4 : Dq (delH (delH H4 a) f) v d := by rw [e4]; exact dv
        obtain ⟨acc4, ea4, da4⟩ := L4.at_
        refine ⟨_, rfl, _, rfl, f, acc4, _, j, rfl, rfl, ea4, ixN_nat (by rw [dqAll_len da4]; omega), ?_⟩
        exact ⟨_, _, _, _, rfl, L4.put nfa nc (DqAll.put dv4 j da4), by rw [List.length_set]; omega⟩
      refine ⟨_, rfl, rfl, _, rfl, ite2 (fun e => ?_) (fun e => ?_)⟩
      · refine ⟨_, rfl, .inl ⟨rfl, _, sq_of ea⟩, _, rfl, _, rfl, _, _, rfl, .inl ⟨acc, sq_of ea, rfl⟩, _, _, rfl, rfl, a, _, rfl, L2'.hd, by omega, by omega, fun H3 r hd3 e3 c3 r0 r1 => ?_⟩
        have L3 := L2'.draw nfa hd3 e3 c3
        obtain ⟨acc3, ea3, da3⟩ := L3.at_
        have d3 : Dq (delH (delH H3 a) f) one od := by rw [e3]; exact d1
        have l3 := dqAll_len da3
        refine ⟨_, rfl, f, acc3, r, one, rfl, rfl, ea3, small1000 (by omega), r0, by omega, ?_⟩
        refine ⟨_, _, _, _, rfl, L3.put nfa nc (DqAll.insAt da3 d3 r.toNat), ?_⟩
        simp only [List.length_append, List.length_take, List.length_drop, List.length_cons, List.length_nil]
        omega
      refine ⟨_, rfl, rfl, _, rfl, ite2 (fun e => ?_) (fun e => ?_)⟩
      · refine ⟨_, rfl, .inl ⟨rfl, _, sq_of ea⟩, _, rfl, f, acc, _, j, one, rfl, rfl, ea, by omega, by omega, PyProof.Rows.seqIndex_at (by omega) (by omega), oj, ?_⟩
        have L3 := L2'.put nfa nc (DqAll.erase j da)
        have ea3 : upd H2 f (.lst (acc.eraseIdx j)) f = some (.lst (acc.eraseIdx j)) := upd_same
        have d3 : Dq (delH (delH (upd H2 f (.lst (acc.eraseIdx j))) a) f) one od := by rw [del2_upd]; exact d1
        generalize upd H2 f (.lst (acc.eraseIdx j)) = H3 at L3 ea3 d3
        have le : (acc.eraseIdx j).length = ds.length - 1 := by rw [List.length_eraseIdx_of_lt hj, lacc]
        refine ⟨_, rfl, .inl ⟨rfl, _, sq_of ea3⟩, _, rfl, _, rfl, _, _, rfl, .inl ⟨_, sq_of ea3, rfl⟩, _, _, rfl, rfl, a, _, rfl, L3.hd, by omega, by omega, fun H4 r hd4 e4 c4 r0 r1 => ?_⟩
        have L4 := L3.draw nfa hd4 e4 c4
        obtain ⟨acc4, ea4, da4⟩ := L4.at_
        have d4 : Dq (delH (delH H4 a) f) one od := by rw [e4]; exact d3
        have l4 := dqAll_len da4
        have l5 : (ds.eraseIdx j).length = ds.length - 1 := List.length_eraseIdx_of_lt (by omega)
        refine ⟨_, rfl, f, acc4, r, one, rfl, rfl, ea4, small1000 (by omega), r0, by omega, ?_⟩
        refine ⟨_, _, _, _, rfl, L4.put nfa nc (DqAll.insAt da4 d4 r.toNat), ?_⟩
        simp only [List.length_append, List.length_take, List.length_drop, List.length_cons, List.length_nil]
        omega
      refine isi_go (kit_tup od) (fun Q q => ⟨_, rfl, q⟩) (Dq.same K_up _ _ d1) ⟨_, rfl, ?_⟩
      cases hT : isTup od with
      | false => exact iteF (iteF ⟨_, _, _, _, rfl, L2', by omega⟩)
      | true =>
      obtain ⟨es, rfl⟩ := isT_tuple hT
      obtain ⟨o, vs, rfl, eo, dv⟩ := Dq.tup_inv d1
      have lvs := dqAll_len dv
      have eo2 := K_up _ _ eo
      refine iteT ⟨_, rfl, _, _, rfl, .inr ⟨vs, st_of eo2, rfl⟩, rfl, _, rfl, ite2 (fun l3 => ?_) (fun _ => ⟨_, _, _, _, rfl, L2', by omega⟩)⟩
      have l3' : vs.length = 3 := by
        have z : (vs.length : Int) = 3 := by simpa [dec_int] using l3
        omega
      match vs, es, dv, l3' with
      | [v0, v1, v2], [x0, x1, x2], .cons q0 (.cons q1 (.cons q2 .nil)), _ =>
      refine mkr_odds (K := K) hold2 hf2 rfl rfl eo2 q0 q1 q2 H2 (Same.refl _) _ fun v H3 s3 q3 => ?_
      have L3 := L2'.new s3
      have up3 := same_del (a := f) (same_del (a := a) s3)
      cases q3 with | lst at_ low rest =>
      obtain ⟨nqa, nqf, eq3⟩ := K_at at_
      have lr := dqAll_len rest
      refine ⟨_, rfl, a, 3, rfl, L3.hd, by decide, by decide, fun H4 pl hd4 e4 c4 p0 p1 => ?_⟩
      have L4 := L3.draw nfa hd4 e4 c4
      obtain ⟨pl, rfl⟩ := Int.eq_ofNat_of_zero_le p0
      rw [← e4] at at_ rest up3
      refine ⟨_, rfl, _, rfl, a, _, _, rfl, L4.hd, (K_at at_).2.2, nqa, by rw [lr]; (show 0 < 17; decide), by rw [lr]; (show 17 < 1000; decide), fun H5 i v hd5 e5 c5 ev => ?_⟩
      have L5 := L4.draw nfa hd5 e5 c5
      rw [← e5] at rest up3
      have dv5 := DqAll.some rest ev
      obtain ⟨dp, _, dv5⟩ := dv5
      have eo5 := up3 _ _ eo
      have q25 := Dq.same up3 _ _ q2
      have one5 : DqAll (delH (delH H5 a) f) [v0, v1, v2] [x0, x1, x2] := DqAll.same up3 _ _ (.cons q0 (.cons q1 (.cons q2 .nil)))
      refine ⟨fun σ H6 => ∃ (o7 : Option V) (pl : Nat) (part : V) (dp : PyData), σ = [some (.ref a), some (.int m), some (.ref b), some (.ref f), some (.int kd), some (.int ((j : Nat) : Int)), some (.ref o), o7, some (.int ((pl : Nat) : Int)), some part] ∧ pl ≤ 2 ∧ LD H a f c ds H6 ∧ Dq (delH (delH H6 a) f) part dp ∧ delH (delH H6 a) f o = some (.tup [v0, v1, v2]) ∧ DqAll (delH (delH H6 a) f) [v0, v1, v2] [x0, x1, x2], ?_, ?_⟩
      · skip
        refine ⟨_, rfl, rfl, _, rfl, ite2 (fun e => ?_) (fun _ => iteF ⟨_, pl, v, dp, rfl, by omega, L5, dv5, eo5, one5⟩)⟩
        refine ⟨_, rfl, o, [v0, v1, v2], 2, v2, rfl, rfl, st_of (K_up _ _ eo5), rfl, v2, x2, 10000, rfl, Dq.same K_up _ _ q25, _, rfl, ite2 (fun n => ?_) (fun _ => ⟨_, pl, v, dp, rfl, by omega, L5, dv5, eo5, one5⟩)⟩
        obtain ⟨i, rfl, i0, i1⟩ := number_int n
        obtain rfl := Dq.int_inv q25
        refine ⟨_, rfl, o, [v0, v1, .int i], 2, _, rfl, rfl, st_of (K_up _ _ eo5), rfl, _, rfl, ?_⟩
        refine (mkn_lst (mkna_cons (mkn_neg 1) (mkna_cons (mkn_int 1) (mkna_cons (mkn_int 30) (mkna_cons (mkn_neg 30) mkna_nil)))) (by show 4 ≤ 1000; decide)) H5 _ fun w H6 s6 q6 => ?_
        have L6 := L5.new s6
        have up6 := same_del (a := f) (same_del (a := a) s6)
        have q6' := Dq.same (newH_off2 (H := H6) L5.hd.held L5.held) _ _ q6
        cases q6' with | lst at6 low6 rest6 =>
        obtain ⟨n6, _, eq6⟩ := K_at at6
        have l6 := dqAll_len rest6
        refine ⟨a, _, _, rfl, L6.hd, eq6, n6, by rw [l6]; (show 0 < 4; decide), by rw [l6]; (show 4 < 1000; decide), fun H7 i7 z hd7 e7 c7 ev7 => ?_⟩
        have L7 := L6.draw nfa hd7 e7 c7
        obtain ⟨dz, mz, qz⟩ := DqAll.some rest6 ev7
        have iz : ∃ k : Int, z = .int k := by
          simp only [List.mem_cons, List.not_mem_nil, or_false] at mz
          rcases mz with rfl | rfl | rfl | rfl <;> exact ⟨_, Dq.int_inv qz⟩
        obtain ⟨k, rfl⟩ := iz
        rw [← e7] at up6
        exact ⟨_, _, rfl, rfl, _, _, rfl, _, 2, _, .int (i + k), rfl, Nat.le_refl _, L7, .int _, up6 _ _ eo5, DqAll.same up6 _ _ one5⟩
      · rintro σ H6 ⟨o7, pl, part, dp, rfl, p2, L, dvp, eo6, one6⟩
        have eoH := K_up _ _ eo6
        have cut1 : cutV [v0, v1, v2] none (some ((pl : Nat) : Int)) = [v0, v1, v2].take pl := by
          unfold cutV
          rw [HT.sIx_none, HT.sIx_nat, List.drop_zero, Nat.sub_zero, Nat.min_eq_left (by simp; omega)]
        have cut2 : cutV [v0, v1, v2] (some ((pl : Nat) + 1 : Int)) none = [v0, v1, v2].drop (pl + 1) := by
          unfold cutV
          have z : ((pl : Nat) + 1 : Int) = ((pl + 1 : Nat) : Int) := by omega
          rw [z, HT.sIx_none, HT.sIx_nat, Nat.min_eq_left (by simp; omega)]
          exact List.take_of_length_le (by rw [List.length_drop]; omega)
        refine ⟨_, rfl, _, rfl, _, rfl, o, [v0, v1, v2], rfl, st_of eoH, fun w => ?_, fun _ p1 np1 => ⟨_, rfl, (by show 1 ≤ sizeLine; decide), fun p3 np3 => ?_⟩⟩
        · have w2 := w.2
          rw [HT.sIx_nat] at w2
          simp at w2
          omega
        rw [cut1] at np3 ⊢
        have t1 := same_new (o := HO.tup ([v0, v1, v2].take pl)) np1
        have t3 := same_new (o := HO.tup [part]) np3
        refine catA_go (t3 _ _ upd_same) upd_same (by rw [List.length_take]; simp; omega) fun g H7 s7 e7 => ?_
        have s67 := (t1.trans t3).trans s7
        refine ⟨_, rfl, _, rfl, _, _, rfl, rfl, _, rfl, o, [v0, v1, v2], rfl, st_of (s67 _ _ eoH), fun w => ?_, fun _ p5 np5 => ?_⟩
        · have w1 := w.1
          have z : ((pl : Nat) + 1 : Int) = ((pl + 1 : Nat) : Int) := by omega
          rw [z, HT.sIx_nat] at w1
          simp at w1
        rw [cut2]
        have t5 := same_new (o := HO.tup ([v0, v1, v2].drop (pl + 1))) np5
        refine catA_go (t5 _ _ e7) upd_same (by rw [List.length_append, List.length_take, List.length_drop]; simp; omega) fun g2 H8 s8 e8 => ?_
        have s68 := (s67.trans t5).trans s8
        have L8 := L.new s68
        have up8 := same_del (a := f) (same_del (a := a) s68)
        obtain ⟨acc8, ea8, da8⟩ := L8.at_
        have dn : Dq (delH (delH H8 a) f) (.ref g2) (.tuple ([x0, x1, x2].take pl ++ [dp] ++ [x0, x1, x2].drop (pl + 1))) :=
          .tup (K_tup L8.hd ea8 e8) (DqAll.same up8 _ _ (DqAll.app (DqAll.app (DqAll.take pl one6) (.cons dvp .nil)) (DqAll.drop (pl + 1) one6)))
        refine ⟨_, rfl, _, rfl, f, acc8, _, j, rfl, rfl, ea8, ixN_nat (by rw [dqAll_len da8]; omega), ?_⟩
        have L9 := L8.put nfa nc (DqAll.put dn j da8)
        have eo9 : delH (delH (upd H8 f (HO.lst (acc8.set j (.ref g2)))) a) f o = some (.tup [v0, v1, v2]) := by
          rw [del2_upd]
          exact up8 _ _ eo6
        have one9 : DqAll (delH (delH (upd H8 f (HO.lst (acc8.set j (.ref g2)))) a) f) [v0, v1, v2] [x0, x1, x2] := by
          rw [del2_upd]
          exact DqAll.same up8 _ _ one6
        generalize upd H8 f (HO.lst (acc8.set j (.ref g2))) = H9 at L9 eo9 one9
        refine ⟨_, rfl, rfl, _, rfl, ite2 (fun e => ?_) (fun _ => ⟨_, _, _, _, rfl, L9, by rw [List.length_set]; omega⟩)⟩
        refine ⟨_, rfl, o, [v0, v1, v2], rfl, .inr (st_of (K_up _ _ eo9)), fun l nl low => ?_⟩
        have s9 := same_new (o := HO.lst [v0, v1, v2]) nl
        have L10 := L9.new s9
        obtain ⟨acc10, ea10, da10⟩ := L10.at_
        have nla : l ≠ a := fun z => by
          obtain ⟨o, e⟩ := L9.hd.held
          rw [z, e] at nl
          cases nl
        have nlf : l ≠ f := fun z => by
          obtain ⟨o, e⟩ := L9.held
          rw [z, e] at nl
          cases nl
        have dn2 : Dq (delH (delH (upd H9 l (HO.lst [v0, v1, v2])) a) f) (.ref l) (.list [x0, x1, x2]) :=
          .lst (by rw [delH_ne nlf, delH_ne nla]; exact upd_same) low (DqAll.same (same_del (a := f) (same_del (a := a) s9)) _ _ one9)
        refine ⟨_, rfl, _, rfl, f, acc10, _, j, rfl, rfl, ea10, ixN_nat (by rw [dqAll_len da10, List.length_set]; omega), ?_⟩
        exact ⟨_, _, _, _, rfl, L10.put nfa nc (DqAll.put dn2 j da10), by rw [List.length_set, List.length_set]; omega⟩
    · rintro σ H3 ⟨ds', o7, o8, o9, rfl, L, len⟩
      obtain ⟨acc3, e3, d3⟩ := L.at_
      refine ⟨_, rfl, f, acc3, rfl, .inl ⟨sq_of e3, fun l nl => ?_⟩⟩
      have s3 := same_new (o := HO.tup acc3) nl
      have nla : l ≠ a := fun z => by
        obtain ⟨o, e⟩ := L.hd.held
        rw [z, e] at nl
        cases nl
      exact hQ _ l ds' (hand_same L.hd s3) ((cells_same L.hd s3).trans (L.ce.trans hce.symm)) ((L.sm.trans same_delH).trans (same_del s3)) (.tup (by rw [delH_ne nla]; exact upd_same) (DqAll.same (same_delH.trans (same_del s3)) _ _ d3)) len
end
end K08

set_option maxHeartbeats 4000000
namespace K08
open PySem PySem.Spec PyProof.Rows L2 V1 V2
open Evl (pss_cut tCut sq_of st_of)
/-- from H to H': the hand at a stands, all else as it was, or new -/
structure Go (a : Addr) (H H' : Hp) : Prop where
  hd : HandAt H' a
  ce : cellsOf H' a = cellsOf H a
  sm : Same (delH H a) (delH H' a)
theorem Go.refl {a : Addr} {H : Hp} (h : HandAt H a) : Go a H H := ⟨h, rfl, Same.refl _⟩
theorem Go.new {a : Addr} {H H' : Hp} (h : HandAt H a) (s : Same H H') : Go a H H' := ⟨hand_same h s, cells_same h s, same_del s⟩
theorem Go.draw {a : Addr} {H H' : Hp} (h1 : HandAt H' a) (h2 : delH H' a = delH H a) (h3 : cellsOf H' a = cellsOf H a) : Go a H H' := ⟨h1, h3, by rw [h2]; exact Same.refl _⟩
theorem Go.trans {a : Addr} {H H1 H2 : Hp} (g : Go a H H1) (g' : Go a H1 H2) : Go a H H2 := ⟨g'.hd, g'.ce.trans g.ce, g.sm.trans g'.sm⟩
theorem Go.dq {a : Addr} {H H' : Hp} {v : V} {d : PyData} (g : Go a H H') (h : Dq (delH H a) v d) : Dq (delH H' a) v d := Dq.same g.sm _ _ h
theorem Go.at_ {a b : Addr} {H H' : Hp} {o : HO} (g : Go a H H') (h : delH H a b = some o) : delH H' a b = some o := g.sm _ _ h
theorem HandAt.ne_new {H : Hp} {a q : Addr} (h : HandAt H a) (n : H q = none) : q ≠ a := fun z => by
  obtain ⟨o, e⟩ := h.held
  rw [z, e] at n
  cases n
/-- the hand picks one of the numbers of a new list -/
theorem some_ints {K : PySem.W.Frag} {H : Hp} {a q : Addr} {Q : VK} (xs : List Int) (hd : HandAt H a) (nq : H q = none) (px : ∀ x ∈ xs, 0 ≤ x) (l0 : 0 < xs.length) (l1 : xs.length < 1000)
    (k : ∀ H2 (z : Nat), Go a H H2 → ((z : Nat) : Int) ∈ xs → Q (.int ((z : Nat) : Int)) H2) : spSome K [.ref a, .ref q] (upd H q (.lst (xs.map V.int))) Q (fun _ _ _ => False) := by
  have s1 := same_new (o := HO.lst (xs.map V.int)) nq
  refine ⟨a, q, _, rfl, hand_same hd s1, upd_same, hd.ne_new nq, by rw [List.length_map]; exact l0, by rw [List.length_map]; exact l1, fun H2 i v hd2 e2 c2 ev => ?_⟩
  obtain ⟨z, rfl, z0, zm⟩ := pos_of ev px
  obtain ⟨j, rfl⟩ := Int.eq_ofNat_of_zero_le z0
  exact k H2 j ((Go.new hd s1).trans (Go.draw hd2 e2 c2)) zm
/-- the hand picks one of the things of a list of data -/
theorem some_data {K : PySem.W.Frag} {H : Hp} {a : Addr} {v : V} {ds : List PyData} {Q : VK} (hd : HandAt H a) (q : Dq (delH H a) v (.list ds)) (l0 : 0 < ds.length) (l1 : ds.length < 1000)
    (k : ∀ H2 w d, Go a H H2 → d ∈ ds → Dq (delH H2 a) w d → Q w H2) : spSome K [.ref a, v] H Q (fun _ _ _ => False) := by
  cases q with | @lst p xs _ at_ low rest =>
  have na : p ≠ a := fun z => by
    rw [z, delH_same] at at_
    cases at_
  rw [delH_ne na] at at_
  have lr := dqAll_len rest
  refine ⟨a, _, _, rfl, hd, at_, na, by rw [lr]; exact l0, by rw [lr]; exact l1, fun H2 i w hd2 e2 c2 ev => ?_⟩
  obtain ⟨d, m, z⟩ := DqAll.some rest ev
  exact k H2 w d (Go.draw hd2 e2 c2) m (by rw [e2]; exact z)
theorem del_comm {H : Hp} {a f : Addr} : delH (delH H a) f = delH (delH H f) a := by
  funext b
  by_cases e : b = f
  · subst e
    rw [delH_same]
    by_cases e2 : b = a
    · rw [e2, delH_same]
    · rw [delH_ne e2, delH_same]
  · by_cases e2 : b = a
    · rw [delH_ne e, e2, delH_same, delH_same]
    · rw [delH_ne e, delH_ne e2, delH_ne e2, delH_ne e]
theorem Go.draw_in {a D c : Addr} {H0 H H' : Hp} (g : Go a H0 (delH H D)) (hc : cellsOf H0 a = some (.ref c)) (cD : c ≠ D) (Da : D ≠ a) (h1 : HandAt H' a) (h2 : delH H' a = delH H a) (h3 : cellsOf H' a = cellsOf H a) : Go a H0 (delH H' D) ∧ H' D = H D := by
  have cel : ∀ {X : Hp}, cellsOf (delH X D) a = cellsOf X a := fun {X} => by
    unfold cellsOf
    rw [delH_ne (Ne.symm Da)]
  have z : cellsOf H' a = some (.ref c) := h3.trans ((cel.symm.trans g.ce).trans hc)
  refine ⟨⟨h1.off z cD Da, cel.trans (z.trans hc.symm), ?_⟩, ?_⟩
  · rw [del_comm, h2, del_comm]
    exact g.sm
  · have y := congrFun h2 D
    rw [delH_ne Da, delH_ne Da] at y
    exact y
theorem del_self {H : Hp} {a : Addr} : delH (delH H a) a = delH H a := by
  funext b
  by_cases e : b = a
  · rw [e, delH_same, delH_same]
  · rw [delH_ne e]
/-- list(x) of a tuple of data, the new list beside the hand -/
theorem mkr_listof {K : PySem.W.Frag} {H0 : Hp} {a b : Addr} {i : Nat} {σ : L2.St} {ds : List PyData} (ha : Held H0 a) (h8 : σ[i]? = some (some (.ref b))) (d : Dq (delH H0 a) (.ref b) (.tuple ds)) :
    MkR H0 a a (tCB (fun xs H Q => ∃ p ys, xs = [.ref p] ∧ (SqL K H p ys ∨ SqT K H p ys) ∧ ∀ l, H l = none → (l == sysModules) = false → Q (.ref l) (upd H l (.lst ys))) (tCons (tVar i) tNil)) σ (.list ds) := fun H s Q k => by
  obtain ⟨b', us, eb, hb, hr⟩ := Dq.tup_inv d
  cases eb
  refine ⟨_, h8, b, us, rfl, .inr (st_of (s _ _ (same_delH _ _ hb))), fun l nl low => k _ _ (same_new nl) (Dq.lst (xs := us) ?_ low ?_)⟩
  · obtain ⟨o, e⟩ := ha.same s
    have na : l ≠ a := fun z => by
      rw [z, e] at nl
      cases nl
    rw [delH_ne na, delH_ne na]
    exact upd_same
  · rw [del_self]
    exact DqAll.same (same_del (s.trans (same_new nl))) _ _ hr
theorem mkr_cat2 {K : PySem.W.Frag} {H0 : Hp} {a b : Addr} {i : Nat} {σ : L2.St} {ds : List PyData} (ha : HandAt H0 a) (h8 : σ[i]? = some (some (.ref b))) (d : Dq (delH H0 a) (.ref b) (.tuple ds)) (l : ds.length ≤ 500) :
    MkR H0 a a (tOp (rCatA K) (tVar i) (tVar i)) σ (.tuple (ds ++ ds)) := fun H s Q k => by
  obtain ⟨b', us, eb, hb, hr⟩ := Dq.tup_inv d
  cases eb
  have lu := dqAll_len hr
  refine ⟨_, h8, _, h8, catA_go (s _ _ (same_delH _ _ hb)) (s _ _ (same_delH _ _ hb)) (by omega) fun q H' s' e' => k _ _ s' (Dq.tup (xs := us ++ us) ?_ ?_)⟩
  · rw [del_self]
    exact tup_off (hand_same ha (s.trans s')) e'
  · rw [del_self]
    exact DqAll.app (DqAll.same (same_del (s.trans s')) _ _ hr) (DqAll.same (same_del (s.trans s')) _ _ hr)
def teOther : TE := tLstS (tCons (tC (.int 0)) (tCons (tC (.int 1)) (tCons (tC (.int 2)) (tCons (tC (.int 8)) (tCons (tC (.int 9)) (tCons (tC (.bl true)) (tCons (tC .non) (tCons (tC (.str (Str.ofString "2"))) (tCons (tUn (rU fun i => V.int (-i)) (tC (.int 1))) (tCons (tOp (rI CPow fun i j => V.int (i ^ j.toNat)) (tC (.int 10)) (tC (.int 19))) (tCons (tTup (tCons (tC (.int 2)) tNil)) (tCons (tLstS (tCons (tC (.int 2)) tNil)) (tCons (tCall spDeep [] E0 (tCons (tC (.int 0)) tNil)) tNil)))))))))))))
def othersD : List PyData := [.int 0, .int 1, .int 2, .int 8, .int 9, .bool true, .none, .str "2", .int (-1), .int (10 ^ 19), .tuple [.int 2], .list [.int 2], deepD 0 36]
theorem mkn_other {σ : L2.St} : MkN teOther σ (.list othersD) := mkn_lst (mkna_cons (mkn_int 0) (mkna_cons (mkn_int 1) (mkna_cons (mkn_int 2) (mkna_cons (mkn_int 8) (mkna_cons (mkn_int 9) (mkna_cons (mkn_bl true) (mkna_cons (mkn_non) (mkna_cons (mkn_str "2") (mkna_cons (mkn_neg 1) (mkna_cons (mkn_pow) (mkna_cons (mkn_tup (mkna_cons (mkn_int 2) mkna_nil) (by show 1 ≤ 1000; decide)) (mkna_cons (mkn_lst (mkna_cons (mkn_int 2) mkna_nil) (by show 1 ≤ 1000; decide)) (mkna_cons (mkn_deep 0) mkna_nil))))))))))))) (by show 13 ≤ 1000; decide)
def teBad (K : PySem.W.Frag) : TE := tLstS (tCons (tCB (fun xs H Q => ∃ p ys, xs = [.ref p] ∧ (SqL K H p ys ∨ SqT K H p ys) ∧ ∀ l, H l = none → (l == sysModules) = false → Q (.ref l) (upd H l (.lst ys))) (tCons (tVar 8) tNil)) (tCons (tC .non) (tCons (tC (.int 0)) (tCons (tC (.str (Str.ofString ""))) (tCons (tDNewK) (tCons (tCall spDeep [] E0 (tCons (tC (.int 0)) tNil)) (tCons (tCall spDeep [] E0 (tCons (tC (.int 1)) tNil)) (tCons (tOp (rCatA K) (tVar 8) (tVar 8)) tNil))))))))
def badsD (ds : List PyData) : List PyData := [.list ds, .none, .int 0, .str "", .dict [], deepD 0 36, deepD 1 36, .tuple (ds ++ ds)]
theorem mkr_bad {K : PySem.W.Frag} {H0 : Hp} {a b : Addr} {σ : L2.St} {ds : List PyData} (hh : HandAt H0 a) (h8 : σ[8]? = some (some (.ref b))) (d : Dq (delH H0 a) (.ref b) (.tuple ds)) (l : ds.length ≤ 500) : MkR H0 a a (teBad K) σ (.list (badsD ds)) :=
  mkr_lst hh.held hh.held (mkra_cons (mkr_listof hh.held h8 d) (mkra_cons (mkr_new hh.held hh.held mkn_non) (mkra_cons (mkr_new hh.held hh.held (mkn_int 0)) (mkra_cons (mkr_new hh.held hh.held (mkn_str "")) (mkra_cons (mkr_new hh.held hh.held mkn_dict0) (mkra_cons (mkr_new hh.held hh.held (mkn_deep 0)) (mkra_cons (mkr_new hh.held hh.held (mkn_deep 1)) (mkra_cons (mkr_cat2 hh h8 d l) mkra_nil)))))))) (by show 8 ≤ 1000; decide)
structure GT (m : Int) (i : Nat) (ts : List (Int × Int)) : Prop where
  ok : ∀ t ∈ ts, 0 ≤ t.1 ∧ t.1 < t.2 ∧ t.2 < m ∧ t.1 < i
  up : ts.Pairwise fun x y => x.1 < y.1 ∨ x.1 = y.1 ∧ x.2 < y.2
  len : ts.length ≤ 8 * i
theorem GT.more {m : Int} {i : Nat} {ts : List (Int × Int)} {us : List Int} (h : GT m i ts) (pw : us.Pairwise (· < ·)) (bd : ∀ o ∈ us, (i : Int) < o ∧ o < m) (l : us.length ≤ 8) : GT m (i + 1) (ts ++ us.map fun o => (((i : Nat) : Int), o)) := by
  refine ⟨fun t ht => ?_, List.pairwise_append.mpr ⟨h.up, ?_, fun x hx y hy => ?_⟩, by rw [List.length_append, List.length_map]; have := h.len; omega⟩
  · rcases List.mem_append.mp ht with q | q
    · have := h.ok t q
      omega
    · obtain ⟨o, ho, rfl⟩ := List.mem_map.mp q
      have := bd o ho
      simp only
      omega
  · rw [List.pairwise_map]
    exact List.Pairwise.imp (fun {x y} z => .inr ⟨rfl, z⟩) pw
  · obtain ⟨o, ho, rfl⟩ := List.mem_map.mp hy
    have := h.ok x hx
    exact .inl (by simp only; omega)
theorem lotOk_of {m : Int} : ∀ {lo : Int} {ns : List Int}, ns.Pairwise (· < ·) → (∀ n ∈ ns, lo ≤ n ∧ n < m) → LotOk m lo ns
  | _, [], _, _ => trivial
  | lo, n :: r, p, h => by
    obtain ⟨p1, p2⟩ := List.pairwise_cons.mp p
    have z := h n List.mem_cons_self
    refine ⟨z.1, z.2, lotOk_of p2 fun x hx => ?_⟩
    have z1 := p1 x hx
    have z2 := h x (List.mem_cons_of_mem _ hx)
    omega
theorem part_kind (d1 d2 : PyData) : (∃ i, partV d1 d2 = .int i) ∨ ∃ x, partV d1 d2 = .str x := by
  unfold partV partOf
  split
  · split
    · split
      · rename_i m ds _ _
        cases firstBad m ds with
        | none => exact .inr ⟨_, rfl⟩
        | some i => exact .inl ⟨_, rfl⟩
      · exact .inr ⟨_, rfl⟩
    · exact .inr ⟨_, rfl⟩
  · exact .inr ⟨_, rfl⟩
theorem part_scal (d1 d2 : PyData) : scal (partV d1 d2) (partV d1 d2) = true := by
  rcases part_kind d1 d2 with ⟨i, e⟩ | ⟨x, e⟩ <;> rw [e] <;> rfl
theorem part_data (d1 d2 : PyData) : ∃ d, (∀ H, Dq H (partV d1 d2) d) ∧ flatD 2 d = true := by
  rcases part_kind d1 d2 with ⟨i, e⟩ | ⟨x, e⟩ <;> rw [e]
  · exact ⟨.int i, fun H => .int i, rfl⟩
  · exact ⟨.str x, fun H => .str x, rfl⟩
end K08

set_option maxHeartbeats 8000000
namespace K08
open PySem PySem.Spec PyProof.Rows L2 V1 V2
open Evl (pss_cut tCut sq_of st_of)
def spLaw (K : PySem.W.Frag) : Sp := fun vs H Q _ => ∃ (a : Addr) (ns : List Int), vs = [.ref a] ∧ SqL K H a (ns.map V.int) ∧ ns.length ≤ 63 ∧ ∀ H', Q (.bl true) H'
abbrev lawSl : List Str := ["script", "hand", "many", "letters", "lot", "left", "due", "turn", "bad", "other", "step", "ties", "share", "one", "room", "at"]
theorem scLaw : FnScope lawSl ["script"] (defScope s_law) := ⟨rfl, rfl, rfl, by decide +kernel, rfl, by decide +kernel, by decide +kernel⟩
def ttDraw (k : Int) : TT := tTest (tOp rEq (tCall spDraw [] E0 (tCons (tVar 1) (tCons (tC (.int k)) tNil))) (tC (.int 0)))
def ttShare : TT := tTest (tOp rEq (tCall spDraw [] E0 (tCons (tVar 1) (tCons (tVar 12) tNil))) (tC (.int 0)))
section
variable {P : Program} {w : World} {K : PySem.W.Frag} {mg : Str → Option Value} {base : Heap}
theorem ok_law (T : Tx K mg) : ∃ fd, (∀ base : Heap, LawOk P w K mg base (He.ga K "law") fd "script" (spLaw K)) ∧ ∀ (s : Shared) (u : Value), BindsTo s fd ⟨[u], []⟩ [("script", u)] := by
  obtain ⟨fd, F⟩ := T.c.def_ 28 (d := d_law) rfl
  have bind := FunD.bindsA (ps := ["script"]) F fun _ _ _ _ _ _ us hl => match us, hl with | [_], _ => rfl
  refine ⟨fd, fun base => ?_, fun s u => bind s [u] rfl⟩
  have Hh := ok_hand (P := P) (w := w) (base := base) T
  have Hd := ok_draw (P := P) (w := w) (base := base) T
  have Hs := ok_some (P := P) (w := w) (base := base) T
  have Hl := ok_letters (P := P) (w := w) (base := base) T
  have Hf := ok_full (P := P) (w := w) (base := base) T
  have Hm := ok_made (P := P) (w := w) (base := base) T
  have Hpt := ok_part (P := P) (w := w) (base := base) T
  have He := ok_eqs (P := P) (w := w) (base := base) T
  have Hsp := ok_sp (P := P) (w := w) (base := base) T
  have Hp := ok_deep (P := P) (w := w) (base := base) T
  have His := ok_is (P := P) (w := w) (base := base) T 3
  have Hli := ok_lines (P := P) (w := w) (base := base) T
  have Hn := ok_lnet (P := P) (w := w) (base := base) T
  have Hw := ok_without (P := P) (w := w) (base := base) T
  have Hi := ok_init (P := P) (w := w) (base := base) T
  refine lawOk_of (k := 10) F scLaw ⟨rfl, by decide, by decide⟩ fun cdv s H v0 Q hr gd h => ?_
  refine ⟨_, PSs.nox (pss_cons (ps_set (i := 1) scLaw.nd rfl (Or.inr rfl) (pe_has Hh (hr.mono (by decide)) pass0 (pa_cons (pv 0) pa_nil)))
 (pss_cons (ps_set (i := 2) scLaw.nd rfl (Or.inl rfl) (pe_op op_add pe_int (pe_has Hd (hr.mono (by decide)) pass0 (pa_cons (pv 1) (pa_cons pe_int pa_nil)))))
 (pss_cons (ps_set (i := 3) scLaw.nd rfl (Or.inr rfl) (pe_has Hl (hr.mono (by decide)) pass0 (pa_cons (pv 1) (pa_cons (pv 2) (pa_cons (pe_has Hs (hr.mono (by decide)) pass0 (pa_cons (pv 1) (pa_cons (pe_lstS (pa_cons pe_int (pa_cons pe_int (pa_cons pe_int (pa_cons pe_int (pa_cons pe_int (pa_cons pe_int pa_nil))))))) pa_nil))) pa_nil)))))
 (pss_cut (ps_if (pt_cmpR op_eq (pe_has Hd (hr.mono (by decide)) pass0 (pa_cons (pv 1) (pa_cons pe_int pa_nil))) pe_int (nomark _))
 (pss_one (ps_set (i := 3) scLaw.nd rfl (Or.inr rfl) (pe_has Hf (hr.mono (by decide)) pass0 (pa_cons (pv 1) (pa_cons (pv 2) pa_nil)))))
 pss_nil)
 (pss_cons (ps_if (pt_cmpR op_ne (pe_has Hm (hr.mono (by decide)) pass0 (pa_cons (pv 2) (pa_cons (pv 3) pa_nil))) (pe_has Hpt (hr.mono (by decide)) pass0 (pa_cons (pv 2) (pa_cons (pv 3) pa_nil))) (nomark _))
 (pss_one (ps_ret pe_bl))
 pss_nil)
 (pss_cut (ps_if (pt_cmpR op_le (pe_callB call_len (by rfl) (T.free 49 rfl) PySem.boot_len (pa_cons (pv 3) pa_nil)) pe_int (nomark _))
 (pss_cons (ps_if (pt_not (pt_val (pe_has He (hr.mono (by decide)) pass0 (pa_cons (pv 1) (pa_cons (pv 2) (pa_cons (pv 3) pa_nil))))))
 (pss_one (ps_ret pe_bl))
 pss_nil)
 (pss_cons (ps_set (i := 4) scLaw.nd rfl (Or.inr rfl) (pe_callTy call_tuple_of (by rfl) (T.free 55 rfl) (by decide +kernel) (pa_cons (pe_lc (own := [("at", 15)]) (g := gName 15) (tt := ttDraw 3) (te := tVar 15) (by rfl) scLaw.nd (pi_range1 (by rfl) (T.free 53 rfl) (pa_cons (pe_callB call_len (by rfl) (T.free 49 rfl) PySem.boot_len (pa_cons (pv 3) pa_nil)) pa_nil))
 (blkOk_by (own := [("at", 15)]) (N := lawSl) (sc := defScope s_law) (by decide +kernel)) (fun _ _ _ _ _ => (pg_name (i := 15) scLaw.nd rfl (Or.inl rfl))) (fun _ _ _ _ _ => pts_one (pt_cmpR op_eq (pe_has Hd (hr.mono (by decide)) pass0 (pa_cons (pv 1) (pa_cons pe_int pa_nil))) pe_int (nomark _))) (fun _ _ _ _ _ => (pv 15))) pa_nil)))
 (pss_cut (ps_if (pt_cmpR op_eq (pe_has Hd (hr.mono (by decide)) pass0 (pa_cons (pv 1) (pa_cons pe_int pa_nil))) pe_int (nomark _))
 (pss_one (ps_set (i := 4) scLaw.nd rfl (Or.inr rfl) (pe_has Hs (hr.mono (by decide)) pass0 (pa_cons (pv 1) (pa_cons (pe_lstS (pa_cons (pe_tup pa_nil) (pa_cons (pe_tupRg rfl (by rfl) (T.free 55 rfl) (prg_1 (by rfl) (T.free 53 rfl) (pe_callB call_len (by rfl) (T.free 49 rfl) PySem.boot_len (pa_cons (pv 3) pa_nil)))) pa_nil))) pa_nil)))))
 pss_nil)
 (pss_cons (ps_set (i := 5) scLaw.nd rfl (Or.inl rfl) (pe_has Hw (hr.mono (by decide)) passF (pa_cons (pe_hasC Hi (hr.mono (by decide)) passF (pa_cons (pv 2) (pa_cons (pv 3) pa_nil))) (pa_cons (pv 4) pa_nil))))
 (pss_cons (ps_set (i := 6) scLaw.nd rfl (Or.inl rfl) (pe_callTy call_tuple_of (by rfl) (T.free 55 rfl) (by decide +kernel) (pa_cons (pe_lc (own := [("at", 15)]) (g := gName 15) (tt := tTest (tOp (rIn K true) (tVar 15) (tVar 4))) (te := tOp (rIxT K) (tVar 3) (tVar 15)) (by rfl) scLaw.nd (pi_range1 (by rfl) (T.free 53 rfl) (pa_cons (pe_callB call_len (by rfl) (T.free 49 rfl) PySem.boot_len (pa_cons (pv 3) pa_nil)) pa_nil))
 (blkOk_by (own := [("at", 15)]) (N := lawSl) (sc := defScope s_law) (by decide +kernel)) (fun _ _ _ _ _ => (pg_name (i := 15) scLaw.nd rfl (Or.inl rfl))) (fun _ _ _ _ _ => pts_one (pt_cmpR op_notIn_seq (pv 15) (pv 4) (by rfl))) (fun _ _ _ _ _ => (pe_ix ix_tup (pv 3) (pv 15) (fun _ _ => rfl)))) pa_nil)))
 (pss_one (ps_if (PW.pt (pw_or (pt_not (pt_val (pe_has His (hr.mono (by decide)) pass0 (pa_cons (L2.pe_fld (pv 5) (by rfl)) (pa_cons (pv 6) pa_nil))))) (pw_or1 (pt_not (pt_val (pe_has His (hr.mono (by decide)) pass0 (pa_cons (L2.pe_fld (pv 5) (by rfl)) (pa_cons (pv 2) pa_nil))))))))
 (pss_one (ps_ret pe_bl))
 pss_nil)))))))
 pss_nil)
 (pss_cons (ps_for PassesOwn.never rfl (pi_range1 (by rfl) (T.free 53 rfl) (pa_cons pe_int pa_nil)) (pg_name (i := 7) scLaw.nd rfl (Or.inl rfl))
 (pss_cons (ps_par (i := 8) (j := 9) rfl scLaw.nd rfl rfl (by decide) rfl rfl (pa_cons (pv 3) (pa_cons (pv 2) pa_nil)) (by rfl))
 (pss_cons (ps_for PassesOwn.never rfl (pi_range1 (by rfl) (T.free 53 rfl) (pa_cons (pe_op op_add pe_int (pe_has Hd (hr.mono (by decide)) pass0 (pa_cons (pv 1) (pa_cons pe_int pa_nil)))) pa_nil)) (pg_name (i := 10) scLaw.nd rfl (Or.inl rfl))
 (pss_one (ps_if (pt_cmpR op_gt (pe_callB call_len (by rfl) (T.free 49 rfl) PySem.boot_len (pa_cons (pv 8) pa_nil)) pe_int (nomark _))
 (pss_one (ps_set (i := 8) scLaw.nd rfl (Or.inl rfl) (pe_has Hsp (hr.mono (by decide)) pass0 (pa_cons (pv 1) (pa_cons (pv 2) (pa_cons (pv 8) pa_nil))))))
 pss_nil)))
 (pss_cut (ps_if (pt_cmpR op_eq (pe_has Hd (hr.mono (by decide)) pass0 (pa_cons (pv 1) (pa_cons pe_int pa_nil))) pe_int (nomark _))
 (pss_one (ps_set (i := 9) scLaw.nd rfl (Or.inl rfl) (pe_has Hs (hr.mono (by decide)) pass0 (pa_cons (pv 1) (pa_cons (pe_lstS (pa_cons pe_int (pa_cons pe_int (pa_cons pe_int (pa_cons pe_int (pa_cons pe_int (pa_cons pe_bl (pa_cons pe_non (pa_cons pe_str (pa_cons (pe_un un_neg pe_int) (pa_cons (pe_op op_pow pe_int pe_int) (pa_cons (pe_tup (pa_cons pe_int pa_nil)) (pa_cons (pe_lstS (pa_cons pe_int pa_nil)) (pa_cons (pe_has Hp (hr.mono (by decide)) pass0 (pa_cons pe_int pa_nil)) pa_nil)))))))))))))) pa_nil)))))
 pss_nil)
 (pss_cut (ps_if (pt_cmpR op_eq (pe_has Hd (hr.mono (by decide)) pass0 (pa_cons (pv 1) (pa_cons pe_int pa_nil))) pe_int (nomark _))
 (pss_one (ps_set (i := 8) scLaw.nd rfl (Or.inl rfl) (pe_has Hs (hr.mono (by decide)) pass0 (pa_cons (pv 1) (pa_cons (pe_lstS (pa_cons (pe_callTy call_list_low (by rfl) (T.free 50 rfl) (by decide +kernel) (pa_cons (pv 8) pa_nil)) (pa_cons pe_non (pa_cons pe_int (pa_cons pe_str (pa_cons pe_dnewK (pa_cons (pe_has Hp (hr.mono (by decide)) pass0 (pa_cons pe_int pa_nil)) (pa_cons (pe_has Hp (hr.mono (by decide)) pass0 (pa_cons pe_int pa_nil)) (pa_cons (pe_op op_catA (pv 8) (pv 8)) pa_nil))))))))) pa_nil)))))
 pss_nil)
 (pss_one (ps_if (pt_not (pt_val (pe_has His (hr.mono (by decide)) pass0 (pa_cons (pe_has Hm (hr.mono (by decide)) pass0 (pa_cons (pv 9) (pa_cons (pv 8) pa_nil))) (pa_cons (pe_has Hpt (hr.mono (by decide)) pass0 (pa_cons (pv 9) (pa_cons (pv 8) pa_nil))) pa_nil)))))
 (pss_one (ps_ret pe_bl))
 pss_nil)))))))
 (pss_cons (ps_if (pt_not (pt_val (pe_has Hli (hr.mono (by decide)) pass0 (pa_cons (pe_has Hs (hr.mono (by decide)) pass0 (pa_cons (pv 1) (pa_cons (pe_lstS (pa_cons pe_int (pa_cons pe_int (pa_cons pe_int (pa_cons pe_int (pa_cons pe_int (pa_cons pe_int (pa_cons (pe_has Hd (hr.mono (by decide)) pass0 (pa_cons (pv 1) (pa_cons pe_int pa_nil))) pa_nil)))))))) pa_nil))) pa_nil))))
 (pss_one (ps_ret pe_bl))
 pss_nil)
 (pss_cons (ps_asg (pe_tup (pa_cons (pe_tup pa_nil) (pa_cons (pe_has Hs (hr.mono (by decide)) pass0 (pa_cons (pv 1) (pa_cons (pe_lstS (pa_cons pe_int (pa_cons pe_int (pa_cons pe_int pa_nil)))) pa_nil))) pa_nil))) (pg_tup (by rfl) (pgs_cons (pg_name (i := 11) scLaw.nd rfl (Or.inl rfl)) (pgs_cons (pg_name (i := 12) scLaw.nd rfl (Or.inr rfl)) pgs_nil))))
 (pss_cons (ps_for PassesOwn.never rfl (pi_range1 (by rfl) (T.free 53 rfl) (pa_cons (pv 2) pa_nil)) (pg_name (i := 13) scLaw.nd rfl (Or.inr rfl))
 (pss_one (ps_set (i := 11) scLaw.nd rfl (Or.inl rfl) (pe_op op_catA (pv 11) (pe_callTy call_tuple_of (by rfl) (T.free 55 rfl) (by decide +kernel) (pa_cons (pe_lc (own := [("other", 9)]) (g := gName 9) (tt := ttShare) (te := tTup (tCons (tVar 13) (tCons (tVar 9) tNil))) (by rfl) scLaw.nd (pi_range2 (by rfl) (T.free 53 rfl) (pa_cons (pe_op op_add (pv 13) pe_int) (pa_cons (pv 2) pa_nil)))
 (blkOk_by (own := [("other", 9)]) (N := lawSl) (sc := defScope s_law) (by decide +kernel)) (fun _ _ _ _ _ => (pg_name (i := 9) scLaw.nd rfl (Or.inl rfl))) (fun _ _ _ _ _ => pts_one (pt_cmpR op_eq (pe_has Hd (hr.mono (by decide)) pass0 (pa_cons (pv 1) (pa_cons (pv 12) pa_nil))) pe_int (nomark _))) (fun _ _ _ _ _ => (pe_tup (pa_cons (pv 13) (pa_cons (pv 9) pa_nil))))) pa_nil))))))
 (pss_cons (ps_set (i := 14) scLaw.nd rfl (Or.inl rfl) (pe_op op_fdiv pe_int (pe_callB (call_max2 rfl) (by rfl) (T.free 51 rfl) (by decide +kernel) (pa_cons pe_int (pa_cons (pe_callB call_len (by rfl) (T.free 49 rfl) PySem.boot_len (pa_cons (pv 11) pa_nil)) pa_nil)))))
 (pss_one (ps_ret (pe_has Hn (hr.mono (by decide)) pass0 (pa_cons (pv 2) (pa_cons (pv 11) (pa_cons (pe_has Hs (hr.mono (by decide)) pass0 (pa_cons (pv 1) (pa_cons (pe_lstS (pa_cons pe_int (pa_cons pe_int (pa_cons pe_int (pa_cons pe_int (pa_cons pe_int (pa_cons pe_int (pa_cons (pv 14) (pa_cons (pe_callB (call_min2 rfl) (by rfl) (T.free 52 rfl) (by decide +kernel) (pa_cons pe_int (pa_cons (pe_op op_add (pv 14) pe_int) pa_nil))) pa_nil))))))))) pa_nil))) pa_nil))))))))))))))))), ?_⟩
  obtain ⟨a0, ns, hv, hS, hl, hQ⟩ := h
  obtain rfl : v0 = .ref a0 := by simpa using hv
  refine ⟨_, rfl, a0, ns, rfl, hS, hl, fun H1 a s1 n1 hd1 => ?_⟩
  refine ⟨_, rfl, a, 7, rfl, hd1, by decide, by decide, fun H2 r hd2 e2 c2 r0 r1 => ⟨_, _, rfl, rfl, ?_⟩⟩
  have m2 : 2 ≤ 2 + r := by omega
  have m8 : 2 + r ≤ 8 := by omega
  dsimp only
  generalize 2 + r = m at m2 m8 ⊢
  refine ⟨_, rfl, _, rfl, _, rfl, (by show 6 ≤ sizeLine; decide), fun q nq _ => ?_⟩
  refine some_ints (K := K) [0, 1, 3, 6, 12, 60] hd2 nq (by decide) (by decide) (by decide) fun H3 k g3 km => ?_
  have k60 : k ≤ 60 := by
    simp only [List.mem_cons, List.not_mem_nil, or_false] at km
    omega
  refine ⟨a, m, k, rfl, g3.hd, m2, m8, k60, fun H4 b ls hd4 c4 s4 d4 gd4 => ?_⟩
  clear s1 n1 hd1 hd2 e2 c2 nq g3 c4 s4
  refine ⟨fun σ H => ∃ b ls, σ = [some (.ref a0), some (.ref a), some (.int m), some (.ref b), none, none, none, none, none, none, none, none, none, none, none, none] ∧ HandAt H a ∧ Dq (delH H a) (.ref b) (.tuple (ls.map mkL)) ∧ ls.length ≤ 62 ∧ (ls.length ≤ 60 → GoodS m ls), ?_, ?_⟩
  · refine ⟨_, rfl, a, 8, rfl, hd4, by decide, by decide, fun H5 r hd5 e5 c5 r0 r1 => ⟨rfl, _, rfl, ite2 (fun _ => ?_) (fun _ => ?_)⟩⟩
    · exact ⟨_, rfl, _, rfl, a, m, rfl, hd5, m2, m8, fun H6 b6 ls6 hd6 c6 s6 d6 l6 g6 => ⟨b6, ls6, rfl, hd6, d6, l6, g6⟩⟩
    · exact ⟨b, ls, rfl, hd5, by rw [e5]; exact d4, by have := gd4.len; omega, fun _ => gd4⟩
  clear hd4 d4 gd4
  rintro σ H4 ⟨b, ls, rfl, hd, dl, l62, good⟩
  have dl' := Dq.same same_delH _ _ dl
  refine ⟨_, rfl, _, rfl, .int m, .ref b, .int m, _, rfl, .int m, dl', fun H5 s5 => ⟨_, rfl, _, rfl, .int m, .ref b, .int m, _, rfl, .int m, Dq.same s5 _ _ dl', fun H6 s6 => ⟨part_scal _ _, false, by rw [decide_eq_true rfl]; rfl, iteF ?_⟩⟩⟩
  have g6 := Go.new hd (s5.trans s6)
  replace hd := g6.hd
  replace dl := g6.dq dl
  clear dl' s5 s6 g6
  refine ⟨fun σ H => ∃ o4 o5 o6, σ = [some (.ref a0), some (.ref a), some (.int m), some (.ref b), o4, o5, o6, none, none, none, none, none, none, none, none, none] ∧ HandAt H a ∧ Dq (delH H a) (.ref b) (.tuple (ls.map mkL)), ?_, ?_⟩
  · obtain ⟨b', us, eb, hb, hr'⟩ := Dq.tup_inv dl
    cases eb
    have lus : us.length = ls.length := by rw [dqAll_len hr', List.length_map]
    refine ⟨_, rfl, _, _, rfl, .inr ⟨us, st_of (same_delH _ _ hb), rfl⟩, _, _, rfl, rfl, _, rfl, ite2 (fun l60 => ?_) (fun _ => ⟨_, _, _, rfl, hd, dl⟩)⟩
    have l60' : ls.length ≤ 60 := by
      have z := of_decide_eq_true l60
      omega
    have g := good l60'
    refine ⟨_, rfl, _, rfl, _, rfl, a, m, b, ls, rfl, hd, dl, g, fun H7 hd7 c7 s7 => ⟨true, rfl, iteF ?_⟩⟩
    have dl7 := Dq.same s7 _ _ dl
    have hb7 := s7 _ _ hb
    have hr7 := DqAll.same s7 _ _ hr'
    obtain ⟨c, cs, hce, nca, hc⟩ := hd7.cells
    clear c7 s7 hr'
    refine ⟨_, rfl, _, _, rfl, .inr ⟨us, st_of (same_delH _ _ hb7), rfl⟩, us.length, rfl, by omega, by omega, fun D nD => ?_⟩
    rw [Int.toNat_natCast]
    have Da := hd7.ne_new nD
    have cD : c ≠ D := ne_of_none hc nD
    refine lc_gen (σ := [some (.ref a0), some (.ref a), some (.int m), some (.ref b), none, none, none, none, none, none, none, none, none, none, none, none]) (vs := [15]) (walk_range (lo := 0) (n := us.length)) nD (fun i acc H' => Go a H7 H' ∧ ∃ ns : List Int, acc = ns.map V.int ∧ ns.Pairwise (· < ·) ∧ ∀ n ∈ ns, 0 ≤ n ∧ n < i) ⟨Go.refl hd7, [], rfl, .nil, fun n hn => absurd hn List.not_mem_nil⟩ (fun _ _ _ _ _ => True.intro) ?_ ?_
    · rintro i acc x H8 H8' hi la e ⟨g8, ns, rfl, pw, bd⟩ ⟨rfl, rfl⟩
      refine ⟨rfl, ?_⟩
      refine ⟨_, rfl, a, 3, rfl, hand_same g8.hd same_delH, by decide, by decide, fun H9 r hd9 e9 c9 r0 r1 => ⟨rfl, _, rfl, ?_⟩⟩
      obtain ⟨g9, eD⟩ := g8.draw_in hce cD Da hd9 e9 c9
      refine ite2 (fun _ => ?_) (fun _ => ?_)
      · refine ⟨_, rfl, lc_put la (by omega) (eD.trans e) ⟨g9, ns ++ [0 + (i : Int)], by rw [List.map_append]; rfl, ?_, fun n hn => ?_⟩⟩
        · refine List.pairwise_append.mpr ⟨pw, .cons (fun x hx => absurd hx List.not_mem_nil) .nil, fun x hx y hy => ?_⟩
          simp only [List.mem_cons, List.not_mem_nil, or_false] at hy
          have := bd x hx
          omega
        · rcases List.mem_append.mp hn with q | q
          · have := bd n q
            omega
          · simp only [List.mem_cons, List.not_mem_nil, or_false] at q
            omega
      · exact lc_skip la (eD.trans e) ⟨g9, ns, rfl, pw, fun n hn => by have := bd n hn; omega⟩
    · rintro acc H8 la e ⟨g8, ns, rfl, pw, bd⟩
      refine ⟨D, _, rfl, .inl ⟨sq_of e, fun p np => ?_⟩⟩
      have g8' := g8.trans (Go.new g8.hd same_delH)
      have s9 := same_new (o := HO.tup (ns.map V.int)) np
      have g9 := g8'.trans (Go.new g8'.hd s9)
      have npa := g8'.hd.ne_new np
      have ep : delH (upd H8 p (HO.tup (ns.map V.int))) a p = some (.tup (ns.map V.int)) := by rw [delH_ne npa]; exact upd_same
      have lot : LotOk ls.length 0 ns := lotOk_of pw fun n hn => by have := bd n hn; omega
      generalize upd H8 p (HO.tup (ns.map V.int)) = H9 at g9 ep
      refine ⟨fun σ H => ∃ p ns, σ = [some (.ref a0), some (.ref a), some (.int m), some (.ref b), some (.ref p), none, none, none, none, none, none, none, none, none, none, none] ∧ Go a H7 H ∧ delH H a p = some (.tup (ns.map V.int)) ∧ LotOk ls.length 0 ns, ?_, ?_⟩
      · refine ⟨_, rfl, a, 4, rfl, g9.hd, by decide, by decide, fun H10 r hd10 e10 c10 r0 r1 => ⟨rfl, _, rfl, ite2 (fun _ => ?_) (fun _ => ⟨p, ns, rfl, g9.trans (Go.draw hd10 e10 c10), (Go.draw hd10 e10 c10).at_ ep, lot⟩)⟩⟩
        have g10 := g9.trans (Go.draw hd10 e10 c10)
        have ub : H10 b = some (.tup us) := same_delH _ _ (g10.at_ hb7)
        refine ⟨_, rfl, (by show 0 ≤ sizeLine; decide), fun p0 np0 => ⟨_, rfl, _, _, rfl, .inr ⟨us, st_of (same_new np0 _ _ ub), rfl⟩, _, rfl, RgOk.of_le (by omega) (by omega) (by omega) (by omega), fun p1 np1 => ⟨(by show 2 ≤ sizeLine; decide), fun q nq low => ?_⟩⟩⟩
        have s0 := same_new (o := HO.tup []) np0
        have ep0 : delH (upd H10 p0 (HO.tup [])) a p0 = some (.tup []) := by rw [delH_ne (hd10.ne_new np0)]; exact upd_same
        have g11 := g10.trans (Go.new g10.hd s0)
        generalize upd H10 p0 (HO.tup []) = H11 at np1 nq s0 ep0 g11 ⊢
        have s1 := same_new (o := HO.tup (rgV 0 (us.length : Int))) np1
        have ep1 : delH (upd H11 p1 (HO.tup (rgV 0 (us.length : Int)))) a p1 = some (.tup (rgV 0 (us.length : Int))) := by rw [delH_ne (g11.hd.ne_new np1)]; exact upd_same
        have g12 := g11.trans (Go.new g11.hd s1)
        have ep0' := (Go.new g11.hd s1).at_ ep0
        generalize upd H11 p1 (HO.tup (rgV 0 (us.length : Int))) = H12 at nq s1 ep1 g12 ep0' ⊢
        have s2 := same_new (o := HO.lst [.ref p0, .ref p1]) nq
        refine ⟨a, q, [.ref p0, .ref p1], rfl, hand_same g12.hd s2, upd_same, g12.hd.ne_new nq, (by show 0 < 2; decide), (by show 2 < 1000; decide), fun H13 i v hd13 e13 c13 ev => ?_⟩
        have g2 := (Go.new g12.hd s2).trans (Go.draw hd13 e13 c13)
        match i, ev with
        | 0, ev =>
          obtain rfl := Option.some.inj ev
          exact ⟨p0, [], rfl, g12.trans g2, g2.at_ ep0', trivial⟩
        | 1, ev =>
          obtain rfl := Option.some.inj ev
          refine ⟨p1, (List.range us.length).map fun k : Nat => (0 + (k : Int)), rfl, g12.trans g2, ?_, lotOk_of ?_ fun n hn => ?_⟩
          · have z := g2.at_ ep1
            rw [z]
            unfold rgV
            rw [List.map_map, Int.sub_zero, Int.toNat_natCast]
            rfl
          · rw [List.pairwise_map]
            exact List.Pairwise.imp (fun {x y} h => by omega) List.pairwise_lt_range
          · obtain ⟨k, hk, rfl⟩ := List.mem_map.mp hn
            have := List.mem_range.mp hk
            omega
        | _ + 2, ev => cases ev
      · rintro σ H10 ⟨p, ns, rfl, g10, ep, lot⟩
        have dl10 : Dq H10 (.ref b) (.tuple (ls.map mkL)) := Dq.same same_delH _ _ (g10.dq dl7)
        have hr10 := DqAll.same (same_delH (a := a)) _ _ (DqAll.same g10.sm _ _ hr7)
        refine ⟨_, rfl, _, rfl, ?_⟩
        refine sched_fin (.int m) dl10 (fun x hx => ?_) fun _ ps dx H11 s11 nps e11 => ?_
        · rw [partOf_good g] at hx
          cases hx
        refine ⟨_, rfl, ps, p, m, ls, ns, rfl, ⟨dx, _, e11, Dq.same s11 _ _ dl10⟩, g, s11 _ _ (same_delH _ _ ep), lot, fun p' H12 s12 np' at' => ?_⟩
        have s02 := s11.trans s12
        have g12 := g10.trans (Go.new g10.hd s02)
        have ub12 : H12 b = some (.tup us) := s02 _ _ (same_delH _ _ (g10.at_ hb7))
        have ep12 : H12 p = some (.tup (ns.map V.int)) := s02 _ _ (same_delH _ _ ep)
        have hr12 := DqAll.same s02 _ _ hr10
        refine ⟨_, rfl, _, _, rfl, .inr ⟨us, st_of ub12, rfl⟩, us.length, rfl, by omega, by omega, fun D2 nD2 => ?_⟩
        rw [Int.toNat_natCast]
        refine lc_gen (σ := [some (.ref a0), some (.ref a), some (.int m), some (.ref b), some (.ref p), some (.ref p'), none, none, none, none, none, none, none, none, none, none]) (vs := [15]) (walk_range (lo := 0) (n := us.length)) nD2 (fun i acc H' => Same H12 H' ∧ DqAll H' acc ((((List.range i).filter (keptI ns)).map fun i => ls.getD i (0, 0, 0)).map mkL)) ⟨Same.refl _, .nil⟩ (fun _ _ _ _ _ => True.intro) ?_ ?_
        · rintro i acc x H13' H13 hi la e ⟨sm, qa⟩ ⟨rfl, rfl⟩
          have sm' : Same H12 H13 := fun b o ob => same_delH _ _ (sm _ _ ob)
          have hi' : i < ls.length := by omega
          refine ⟨rfl, ?_⟩
          refine ⟨_, rfl, _, rfl, p, _, rfl, .inr (st_of (sm' _ _ ep12)), rfl, by simp [flatV], _, rfl, ?_⟩
          have kp : (if true = true then !inV (.int (0 + ((i : Nat) : Int))) (ns.map V.int) else inV (.int (0 + ((i : Nat) : Int))) (ns.map V.int)) = keptI ns i := by
            rw [if_pos rfl, inV_ints, Int.zero_add]
            rfl
          rw [kp]
          refine ite2 (fun c => ?_) (fun c => ?_)
          · have at1 : atI us (0 + ((i : Nat) : Int)) = some us[i] := by rw [Int.zero_add]; exact atI_nat (List.getElem?_eq_getElem hi)
            refine ⟨_, rfl, _, rfl, b, us, _, _, rfl, rfl, st_of (sm' _ _ ub12), at1, lc_put la (by omega) e ⟨sm, ?_⟩⟩
            rw [List.range_succ, List.filter_append, List.map_append, List.map_append]
            refine DqAll.app qa ?_
            have z : [i].filter (keptI ns) = [i] := by simp [c]
            rw [z]
            exact .cons (Dq.same sm _ _ (DqAll.at hr12 (List.getElem?_eq_getElem hi) (by
              rw [List.getElem?_map, List.getElem?_eq_getElem hi']
              simp [List.getD, hi']))) .nil
          · refine lc_skip la e ⟨sm, ?_⟩
            rw [List.range_succ, List.filter_append, List.map_append, List.map_append]
            have z : [i].filter (keptI ns) = [] := by simp [c]
            rw [z]
            simpa using qa
        · rintro acc H13 la e ⟨sm, qa⟩
          have s13 : Same H12 H13 := fun b o ob => same_delH _ _ (sm _ _ ob)
          rw [lus] at qa
          refine ⟨D2, acc, rfl, .inl ⟨sq_of e, fun q nq => ?_⟩⟩
          have s14 := s13.trans (same_new (o := HO.tup acc) nq)
          have dq : Dq (upd H13 q (HO.tup acc)) (.ref q) (.tuple ((keptL ls ns).map mkL)) := .tup upd_same (DqAll.same (same_new nq) _ _ (DqAll.same same_delH _ _ qa))
          generalize upd H13 q (HO.tup acc) = H14 at s14 dq
          obtain ⟨dxx, v, e1, dv⟩ := SchAt.same at' s14
          have cS := T.insC.cl
          have kl : (keptL ls ns).length ≤ 900 := Nat.le_trans (keptL_sub ls ns).length_le (by omega)
          refine ⟨_, rfl, p', _, dxx, _, _, rfl, e1, cS, T.no2, rfl, _, rfl, _, _, .tuple ((keptL ls ns).map mkL), rfl, dv, dq, flat_mkLs kl, fun H15 s15 => ⟨true, rfl, iteF ?_⟩⟩
          refine ⟨_, rfl, p', _, dxx, _, _, rfl, s15 _ _ e1, cS, T.no1, rfl, _, rfl, _, _, .int m, rfl, .int m, .int m, rfl, fun H16 s16 => ⟨true, rfl, iteF ?_⟩⟩
          have gE := g12.trans (Go.new g12.hd ((s14.trans s15).trans s16))
          exact ⟨_, _, _, rfl, gE.hd, gE.dq dl7⟩
  · rintro σ H7 ⟨o4, o5, o6, rfl, hd, dl⟩
    have ldl : (ls.map mkL).length ≤ 62 := by rw [List.length_map]; exact l62
    refine ⟨3, rfl, by decide, by decide, for_it (walk_range (lo := 0) (n := 3)) (fun i σ H' => ∃ o4 o5 o6 o7 o8 o9 o10, σ = [some (.ref a0), some (.ref a), some (.int m), some (.ref b), o4, o5, o6, o7, o8, o9, o10, none, none, none, none, none] ∧ Go a H7 H') ⟨_, _, _, _, _, _, _, rfl, Go.refl hd⟩ (fun _ _ _ _ _ => True.intro) ?_ ?_⟩
    · rintro i x σ H8' H8 hi ⟨o4, o5, o6, o7, o8, o9, o10, rfl, g8⟩ ⟨rfl, rfl⟩
      refine ⟨_, rfl, _, rfl, _, _, rfl, ?_⟩
      refine ⟨_, rfl, a, 2, rfl, g8.hd, by decide, by decide, fun H9 r hd9 e9 c9 r0 r1 => ⟨_, _, rfl, rfl, 1 + r, rfl, by omega, by omega, ?_⟩⟩
      have g9 := g8.trans (Go.draw hd9 e9 c9)
      refine for_it (walk_range (lo := 0) (n := (1 + r).toNat)) (fun j σ H' => ∃ o10 vb ds, σ = [some (.ref a0), some (.ref a), some (.int m), some (.ref b), o4, o5, o6, some (.int (0 + ((i : Nat) : Int))), some (.ref vb), some (.int m), o10, none, none, none, none, none] ∧ Go a H7 H' ∧ Dq (delH H' a) (.ref vb) (.tuple ds) ∧ ds.length ≤ 62 + j) ⟨_, b, _, rfl, g9, g9.dq dl, ldl⟩ (fun _ _ _ _ _ => True.intro) ?_ ?_
      · rintro j y σ Hx' Hx hj ⟨o10, vb, ds, rfl, g, d, dlen⟩ ⟨rfl, rfl⟩
        obtain ⟨vb', vs, eb, hvb, hrb⟩ := Dq.tup_inv d
        cases eb
        have lv := dqAll_len hrb
        refine ⟨_, rfl, _, _, rfl, .inr ⟨vs, st_of (same_delH _ _ hvb), rfl⟩, _, _, rfl, rfl, _, rfl, ite2 (fun pos => ?_) (fun _ => ⟨_, vb, ds, rfl, g, d, by omega⟩)⟩
        have p1 := of_decide_eq_true pos
        exact ⟨_, rfl, _, rfl, _, rfl, a, vb, m, ds, rfl, g.hd, d, by omega, by omega, fun H' b' ds' hd' c' s' d' l' => ⟨_, b', ds', rfl, g.trans ⟨hd', c', s'⟩, d', by omega⟩⟩
      · rintro σ Hx ⟨o10, vb, ds, rfl, g, d, dlen⟩
        refine ⟨fun σ H' => ∃ vo do_, σ = [some (.ref a0), some (.ref a), some (.int m), some (.ref b), o4, o5, o6, some (.int (0 + ((i : Nat) : Int))), some (.ref vb), some vo, o10, none, none, none, none, none] ∧ Go a H7 H' ∧ Dq (delH H' a) (.ref vb) (.tuple ds) ∧ Dq (delH H' a) vo do_, ?_, ?_⟩
        · refine ⟨_, rfl, a, 6, rfl, g.hd, by decide, by decide, fun H1 r hd1 e1 c1 r0 r1 => ⟨rfl, _, rfl, ite2 (fun _ => ?_) (fun _ => ⟨.int m, .int m, rfl, g.trans (Go.draw hd1 e1 c1), (Go.draw hd1 e1 c1).dq d, .int m⟩)⟩⟩
          have g1 := Go.draw hd1 e1 c1
          refine ⟨_, rfl, ?_⟩
          refine mkn_other H1 _ fun v H2 s2 q2 => ?_
          refine some_data (K := K) (hand_same hd1 s2) (Dq.same (newH_off hd1.held) _ _ q2) (by show 0 < 13; decide) (by show 13 < 1000; decide) fun H3 w d3 g3 _ dw => ?_
          have g4 := g1.trans ((Go.new hd1 s2).trans g3)
          exact ⟨w, d3, rfl, g.trans g4, g4.dq d, dw⟩
        · rintro σ Hy ⟨vo, do_, rfl, g, d, d2⟩
          refine ⟨fun σ H' => ∃ vb db, σ = [some (.ref a0), some (.ref a), some (.int m), some (.ref b), o4, o5, o6, some (.int (0 + ((i : Nat) : Int))), some vb, some vo, o10, none, none, none, none, none] ∧ Go a H7 H' ∧ Dq (delH H' a) vb db ∧ Dq (delH H' a) vo do_, ?_, ?_⟩
          · refine ⟨_, rfl, a, 8, rfl, g.hd, by decide, by decide, fun H1 r hd1 e1 c1 r0 r1 => ⟨rfl, _, rfl, ite2 (fun _ => ?_) (fun _ => ⟨.ref vb, _, rfl, g.trans (Go.draw hd1 e1 c1), (Go.draw hd1 e1 c1).dq d, (Go.draw hd1 e1 c1).dq d2⟩)⟩⟩
            have g1 := Go.draw hd1 e1 c1
            refine ⟨_, rfl, ?_⟩
            refine mkr_bad (K := K) hd1 rfl (g1.dq d) (by omega) H1 (Same.refl _) _ fun v H2 s2 q2 => ?_
            rw [del_self] at q2
            refine some_data (K := K) (hand_same hd1 s2) q2 (by show 0 < 8; decide) (by show 8 < 1000; decide) fun H3 w d3 g3 _ dw => ?_
            have g4 := g1.trans ((Go.new hd1 s2).trans g3)
            exact ⟨w, d3, rfl, g.trans g4, dw, g4.dq d2⟩
          · rintro σ Hz ⟨vb, db, rfl, g, d, d2⟩
            have du := Dq.same same_delH _ _ d
            have d2u := Dq.same same_delH _ _ d2
            obtain ⟨dp, hdp, fdp⟩ := part_data do_ db
            refine ⟨_, rfl, _, rfl, vo, vb, do_, db, rfl, d2u, du, fun H1 s1 => ⟨_, rfl, _, rfl, vo, vb, do_, db, rfl, Dq.same s1 _ _ d2u, Dq.same s1 _ _ du, fun H2 s2 => ⟨_, _, dp, rfl, hdp _, hdp _, fdp, fun H3 s3 => ⟨true, rfl, iteF ?_⟩⟩⟩⟩
            exact ⟨_, _, _, _, _, _, _, rfl, g.trans (Go.new g.hd ((s1.trans s2).trans s3))⟩
    · rintro σ H8 ⟨o4, o5, o6, o7, o8, o9, o10, rfl, g8⟩
      have dl8 := g8.dq dl
      clear dl ldl
      refine ⟨_, rfl, _, rfl, a, 61, rfl, g8.hd, by decide, by decide, fun H9 r hd9 e9 c9 r0 r1 => ⟨(by show 7 ≤ sizeLine; decide), fun q nq _ => ?_⟩⟩
      have mem7 : ∀ x ∈ [0, 1, 2, 30, 31, 60, r], 0 ≤ x ∧ x ≤ 60 := fun x hx => by
        simp only [List.mem_cons, List.not_mem_nil, or_false] at hx
        omega
      refine some_ints (K := K) [0, 1, 2, 30, 31, 60, r] hd9 nq (fun x hx => (mem7 x hx).1) (by show 0 < 7; decide) (by show 7 < 1000; decide) fun H10 z g10 zm => ?_
      have z60 := (mem7 _ zm).2
      refine ⟨z, rfl, by omega, fun H11 s11 => ⟨true, rfl, iteF ?_⟩⟩
      have hd11 := (Go.new g10.hd s11).hd
      clear g10 s11 mem7 zm z60 nq e9 c9 hd9 dl8 g8
      refine ⟨(by show 0 ≤ sizeLine; decide), fun p0 np0 => ⟨_, rfl, (by show 3 ≤ sizeLine; decide), fun q nq _ => ?_⟩⟩
      have s0 := same_new (o := HO.tup []) np0
      have g0 := Go.new hd11 s0
      have ep0 : delH (upd H11 p0 (HO.tup [])) a p0 = some (.tup []) := by rw [delH_ne (hd11.ne_new np0)]; exact upd_same
      refine some_ints (K := K) [1, 2, 4] g0.hd nq (by decide) (by decide) (by decide) fun H12 sh g12 shm => ?_
      have sh1 : 0 < ((sh : Nat) : Int) ∧ ((sh : Nat) : Int) ≤ 4 := by
        simp only [List.mem_cons, List.not_mem_nil, or_false] at shm
        omega
      replace ep0 := g12.at_ ep0
      have hd12 := g12.hd
      refine ⟨(by show 2 ≤ sizeLine; decide), fun pt npt => ⟨pt, _, rfl, st_of upd_same, rfl, _, _, rfl, _, _, rfl, rfl, ?_⟩⟩
      have s13 := same_new (o := HO.tup [.ref p0, .int ((sh : Nat) : Int)]) npt
      have g13 := Go.new hd12 s13
      replace ep0 := g13.at_ ep0
      have hd13 := g13.hd
      generalize upd H12 pt (HO.tup [.ref p0, .int ((sh : Nat) : Int)]) = H13 at ep0 hd13 ⊢
      clear g13 s13 npt hd12 g12 g0 s0 nq
      refine ⟨_, rfl, m, rfl, by omega, by omega, ?_⟩
      refine for_it (walk_range (lo := 0) (n := m.toNat)) (fun i σ H' => ∃ f ts o9 o13, σ = [some (.ref a0), some (.ref a), some (.int m), some (.ref b), o4, o5, o6, o7, o8, o9, o10, some (.ref f), some (.int ((sh : Nat) : Int)), o13, none, none] ∧ Go a H13 H' ∧ Dq (delH H' a) (.ref f) (.tuple (ts.map mkT)) ∧ GT m i ts) ⟨p0, [], _, _, rfl, Go.refl hd13, .tup ep0 .nil, ⟨fun t ht => absurd ht List.not_mem_nil, .nil, Nat.zero_le _⟩⟩ (fun _ _ _ _ _ => True.intro) ?_ ?_
      · rintro i x σ H14' H14 hi ⟨f, ts, o9, o13, rfl, g14, df, G⟩ ⟨rfl, rfl⟩
        obtain ⟨f', xs, ef, hf, hrf⟩ := Dq.tup_inv df
        cases ef
        obtain ⟨c, cs, hce, nca, hc⟩ := g14.hd.cells
        refine ⟨_, rfl, _, rfl, _, _, rfl, rfl, _, rfl, _, _, rfl, ⟨by omega, by omega, by omega, by omega⟩, fun D nD => ?_⟩
        have Da := g14.hd.ne_new nD
        have cD : c ≠ D := ne_of_none hc nD
        refine lc_gen (σ := [some (.ref a0), some (.ref a), some (.int m), some (.ref b), o4, o5, o6, o7, o8, o9, o10, some (.ref f), some (.int ((sh : Nat) : Int)), some (.int (0 + ((i : Nat) : Int))), none, none]) (vs := [9]) (walk_range (lo := 0 + (i : Int) + 1) (n := (m - (0 + (i : Int) + 1)).toNat)) nD
          (fun j acc H' => Go a H14 H' ∧ ∃ us : List Int, DqAll (delH H' a) acc ((us.map fun o => (((i : Nat) : Int), o)).map mkT) ∧ us.Pairwise (· < ·) ∧ us.length ≤ j ∧ ∀ o ∈ us, (i : Int) < o ∧ o < (i : Int) + 1 + j) ⟨Go.refl g14.hd, [], .nil, .nil, Nat.le_refl _, fun n hn => absurd hn List.not_mem_nil⟩ (fun _ _ _ _ _ => True.intro) ?_ ?_
        · rintro j acc x H15' H15 hj la e ⟨g15, us, qa, pw, lu, bd⟩ ⟨rfl, rfl⟩
          refine ⟨rfl, ?_⟩
          refine ⟨_, rfl, _, rfl, a, _, rfl, hand_same g15.hd same_delH, by omega, by omega, fun H16 r hd16 e16 c16 r0 r1 => ⟨rfl, _, rfl, ?_⟩⟩
          obtain ⟨g16, eD⟩ := g15.draw_in hce cD Da hd16 e16 c16
          have ce : delH (delH H16 D) a = delH (delH H15 D) a := by rw [del_comm, e16, del_comm]
          have qa16 : DqAll (delH (delH H16 D) a) acc ((us.map fun o => (((i : Nat) : Int), o)).map mkT) := by rw [ce]; exact qa
          refine ite2 (fun _ => ?_) (fun _ => ?_)
          · refine ⟨_, rfl, _, rfl, (by show 2 ≤ sizeLine; decide), fun p np => ?_⟩
            have sp := same_new (o := HO.tup [.int (0 + ((i : Nat) : Int)), .int (0 + (i : Int) + 1 + (j : Nat))]) np
            have spD := same_del (a := D) sp
            have g17 := g16.trans (Go.new g16.hd spD)
            have npD : p ≠ D := fun z => by
              rw [z, eD.trans e] at np
              cases np
            have npa : p ≠ a := fun z => by
              obtain ⟨o, e⟩ := hd16.held
              rw [z, e] at np
              cases np
            refine lc_put la (by omega) (sp _ _ (eD.trans e)) ⟨g17, us ++ [0 + (i : Int) + 1 + (j : Nat)], ?_, ?_, ?_, fun n hn => ?_⟩
            · rw [List.map_append, List.map_append]
              refine DqAll.app (DqAll.same (same_del spD) _ _ qa16) (.cons (.tup (by rw [delH_ne npa, delH_ne npD]; exact upd_same) (.cons ?_ (.cons (.int _) .nil))) .nil)
              rw [Int.zero_add]
              exact .int _
            · refine List.pairwise_append.mpr ⟨pw, .cons (fun x hx => absurd hx List.not_mem_nil) .nil, fun x hx y hy => ?_⟩
              simp only [List.mem_cons, List.not_mem_nil, or_false] at hy
              have := bd x hx
              omega
            · rw [List.length_append]
              simp only [List.length_cons, List.length_nil]
              omega
            · rcases List.mem_append.mp hn with q | q
              · have := bd n q
                omega
              · simp only [List.mem_cons, List.not_mem_nil, or_false] at q
                omega
          · exact lc_skip la (eD.trans e) ⟨g16, us, qa16, pw, by omega, fun n hn => by have := bd n hn; omega⟩
        · rintro acc H15 la e ⟨g15, us, qa, pw, lu, bd⟩
          refine ⟨D, acc, rfl, .inl ⟨sq_of e, fun p np => ?_⟩⟩
          have g15' := g15.trans (Go.new g15.hd same_delH)
          have sp := same_new (o := HO.tup acc) np
          have qa15 : DqAll (delH H15 a) acc ((us.map fun o => (((i : Nat) : Int), o)).map mkT) := DqAll.same (by rw [del_comm]; exact same_delH) _ _ qa
          have lt := G.len
          have lx : xs.length = ts.length := by rw [dqAll_len hrf, List.length_map]
          refine catA_go (sp _ _ (same_delH _ _ (g15'.at_ hf))) upd_same (by omega) fun g2 H16 s16 e16 => ?_
          have g16 := g15'.trans (Go.new g15'.hd (sp.trans s16))
          refine ⟨g2, ts ++ us.map fun o => (((i : Nat) : Int), o), _, _, rfl, g14.trans g16, .tup (tup_off g16.hd e16) ?_, G.more pw (fun o ho => by have := bd o ho; omega) (by omega)⟩
          rw [List.map_append]
          exact DqAll.app (DqAll.same g16.sm _ _ hrf) (DqAll.same (same_del (sp.trans s16)) _ _ qa15)
      · rintro σ H14 ⟨f, ts, o9, o13, rfl, g14, df, G⟩
        obtain ⟨f', xs, ef, hf, hrf⟩ := Dq.tup_inv df
        cases ef
        have lx : xs.length = ts.length := by rw [dqAll_len hrf, List.length_map]
        have lt := G.len
        refine ⟨_, rfl, _, _, rfl, .inr ⟨xs, st_of (same_delH _ _ hf), rfl⟩, 1, _, rfl, _, _, rfl, rfl, ?_⟩
        have hl2 : xs.length ≤ 64 := by omega
        have big : 0 < (if (xs.length : Int) > 1 then (xs.length : Int) else 1) ∧ (if (xs.length : Int) > 1 then (xs.length : Int) else 1) < 1073741824 := by
          split <;> omega
        refine ⟨big, ?_⟩
        have rm : 0 ≤ (30 : Int) / (if (xs.length : Int) > 1 then (xs.length : Int) else 1) ∧ (30 : Int) / (if (xs.length : Int) > 1 then (xs.length : Int) else 1) ≤ 30 :=
          ⟨Int.ediv_nonneg (by decide) (Int.le_of_lt big.1), Int.ediv_le_self _ (by decide)⟩
        dsimp only
        generalize (30 : Int) / (if (xs.length : Int) > 1 then (xs.length : Int) else 1) = room at rm ⊢
        refine ⟨_, rfl, _, rfl, _, rfl, _, rfl, _, rfl, _, _, rfl, rfl, _, _, rfl, (by show 8 ≤ sizeLine; decide), fun q nq _ => ?_⟩
        have mem8 : ∀ x ∈ [0, 1, 2, 3, 30, 60, room, if room + 1 < 60 then room + 1 else 60], 0 ≤ x ∧ x ≤ 60 := fun x hx => by
          simp only [List.mem_cons, List.not_mem_nil, or_false] at hx
          have z : 0 ≤ (if room + 1 < 60 then room + 1 else 60) ∧ (if room + 1 < 60 then room + 1 else 60) ≤ 60 := by split <;> omega
          generalize (if room + 1 < 60 then room + 1 else 60) = y at z hx
          omega
        refine some_ints (K := K) [0, 1, 2, 3, 30, 60, room, if room + 1 < 60 then room + 1 else 60] g14.hd nq (fun x hx => (mem8 x hx).1) (by show 0 < 8; decide) (by show 8 < 1000; decide) fun H15 z g15 zm => ?_
        have z60 := (mem8 _ zm).2
        exact ⟨f, m, ts, z, rfl, Dq.same same_delH _ _ (g15.dq df), ⟨m2, m8, fun t ht => by have := G.ok t ht; omega, G.up⟩, by omega, fun H' s' => hQ H'⟩
end
end K08

set_option maxHeartbeats 0
open PySem PySem.W PySem.Calls PyProof.Rows
theorem PySem.Challenge.cw_turnedtalk_k08_whole_schedules_judged_holds : PySem.Challenge.rw_turnedtalk_k08_whole_schedules_judged.Holds := by
  w_on; o_law
  refine HandSHeadRun.head_any (r := OpenLaw.row PySem.Challenge.rw_turnedtalk_k08_whole_schedules_judged) (q := view (OpenLaw.row PySem.Challenge.rw_turnedtalk_k08_whole_schedules_judged).prog [46]) (H := K08.hk) (ob := K08.ob) (M := 60000) (loose := K08.names)
    (d := HandSHeadRun.topDef (OpenLaw.row PySem.Challenge.rw_turnedtalk_k08_whole_schedules_judged).prog 46) (kwd := []) K08.ob_eq
    (by kernel_rfl) (fun s => by kernel_rfl) K08.run (by kernel_rfl) (by kernel_rfl) (by kernel_rfl) (by rfl) (by first | assumption | decide +kernel) (by decide +kernel) ⟨rfl, rfl, rfl, rfl, rfl, by decide +kernel⟩ ?hw ?hc
  case hw => w_witness2
  case hc =>
    refine V1.walk_law (l := PySem.Challenge.rw_turnedtalk_k08_whole_schedules_judged) (n := 63) (x := "script") rfl (by decide) (by kernel_rfl) ?F
    intro w mg fa h Y G hmg0
    obtain ⟨K, KX, c, ex⟩ := Y
    have hmg : mg ("law" : PySem.Str) = some (.ref fa) := by
      have e : (HandSHeadRun.topDef (OpenLaw.row PySem.Challenge.rw_turnedtalk_k08_whole_schedules_judged).prog 46).name = ("law" : PySem.Str) := by kernel_rfl
      rw [← e]
      exact hmg0
    have T : K08.Tx K mg := ⟨c, ex, h, KX, G⟩
    cases hmg.symm.trans (T.glo 41 rfl)
    obtain ⟨fd, ok, bind⟩ := K08.ok_law (P := (PySem.Challenge.rw_turnedtalk_k08_whole_schedules_judged).prog) (w := w) T
    exact ⟨K, fd, K08.spLaw K, KX, bind, fun H a ns hl _ hS => ⟨a, ns, rfl, hS, hl, fun _ => rfl⟩, fun base _ _ => ok base⟩

