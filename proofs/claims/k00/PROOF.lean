import PyProof.Rows.All
import Wide.All
import OpenK.AllK
import Wide.FinOn
import KE.KStateDown
import HandS.ForMost
import HandS.Exc
import HandS.ExcInit
import HandS.ExcField
import HandS.ExcIs
import HandS.ExcValue
import HandS.IsInst
import HandS.Defaults
import HandS.TryMany
import HandS.Wide
import PyProof.ReprRoads
import KE.KExcIs
import HandS.HeadEnd
import HandS.Head0
import HandS.Head1
import HandS.Head2
import HandS.HeadHook1
import HandS.HeadHook2
import HandS.Evl
import HandS.ExcOwn
import HandS.WordsExc
import PySem.Challenge.RW_turnedtalk_k00_errors_keep_what_is_passe
set_option Elab.async false
set_option linter.all false
set_option maxRecDepth 100000
set_option maxHeartbeats 4000000
/-! V1: data with dicts, repr -/
namespace V1
open PySem PySem.Spec PyProof.Rows L2
def keyD : Key → PyData
  | .inl i => .int i
  | .inr x => .str x
mutual
/-- a value of the abstract heap is this data: scalars, tracked lists, tuples, dicts -/
inductive Dq (H : Hp) : V → PyData → Prop
  | non : Dq H .non .none
  | bl (b : Bool) : Dq H (.bl b) (.bool b)
  | int (i : Int) : Dq H (.int i) (.int i)
  | str (x : Str) : Dq H (.str x) (.str x)
  | lst {a : Addr} {xs : List V} {ds : List PyData} (at_ : H a = some (.lst xs)) (low : (a == sysModules) = false) (rest : DqAll H xs ds) : Dq H (.ref a) (.list ds)
  | tup {a : Addr} {xs : List V} {ds : List PyData} (at_ : H a = some (.tup xs)) (rest : DqAll H xs ds) : Dq H (.ref a) (.tuple ds)
  | dct {a : Addr} {kvs : List (Key × V)} {ds : List (PyData × PyData)} (at_ : H a = some (.dK kvs)) (rest : DqKv H kvs ds) : Dq H (.ref a) (.dict ds)
inductive DqAll (H : Hp) : List V → List PyData → Prop
  | nil : DqAll H [] []
  | cons {v : V} {vs : List V} {d : PyData} {ds : List PyData} (one : Dq H v d) (more : DqAll H vs ds) : DqAll H (v :: vs) (d :: ds)
inductive DqKv (H : Hp) : List (Key × V) → List (PyData × PyData) → Prop
  | nil : DqKv H [] []
  | cons {k : Key} {v : V} {kvs : List (Key × V)} {d : PyData} {ds : List (PyData × PyData)} (one : Dq H v d) (more : DqKv H kvs ds) : DqKv H ((k, v) :: kvs) ((keyD k, d) :: ds)
end
section
variable {H H' : Hp}
mutual
theorem Dq.same (e : Same H H') : ∀ (d : PyData) (v : V), Dq H v d → Dq H' v d
  | .none, _, h => by cases h; exact .non
  | .bool b, _, h => by cases h; exact .bl b
  | .int i, _, h => by cases h; exact .int i
  | .str x, _, h => by cases h; exact .str x
  | .list ds, _, h => by
    cases h with
    | lst at_ low rest => exact .lst (e _ _ at_) low (DqAll.same e ds _ rest)
  | .tuple ds, _, h => by
    cases h with
    | tup at_ rest => exact .tup (e _ _ at_) (DqAll.same e ds _ rest)
  | .dict ds, _, h => by
    cases h with
    | dct at_ rest => exact .dct (e _ _ at_) (DqKv.same e ds _ rest)
theorem DqAll.same (e : Same H H') : ∀ (ds : List PyData) (vs : List V), DqAll H vs ds → DqAll H' vs ds
  | [], _, h => by cases h; exact .nil
  | d :: ds, _, h => by
    cases h with
    | cons one more => exact .cons (Dq.same e d _ one) (DqAll.same e ds _ more)
theorem DqKv.same (e : Same H H') : ∀ (ds : List (PyData × PyData)) (kvs : List (Key × V)), DqKv H kvs ds → DqKv H' kvs ds
  | [], _, h => by cases h; exact .nil
  | (k, d) :: ds, _, h => by
    cases h with
    | cons one more => exact .cons (Dq.same e d _ one) (DqKv.same e ds _ more)
end
end
section
variable {X : Cx} {pins : List (Addr × Obj)} {σ : L2.St} {H : Hp} {s : Shared}
theorem key_reads {h : Heap} {k : Key} {u : Value} (e : keyIs k u = true) : Reads h u (keyD k) [] := by
  rcases keyIs_shape e with ⟨i, t, rfl, rfl⟩ | ⟨x, t, rfl, rfl⟩
  · exact .int i t
  · exact .str x t
theorem keys_read {P : Program} {w : World} {h : Heap} {H : Hp} : ∀ {es : List DictEntry} {us : List (Key × Value)} {kvs : List (Key × V)} {ds : List (PyData × PyData)}, Pairs (mixKind P w) es us → KV kvs us → DqKv H kvs ds →
    ReadsAll h (es.map (·.key)) (ds.map (·.1)) []
  | _, _, _, _, .nil, r, q => by
    cases r
    cases q
    exact .nil
  | _, _, _, _, .cons he hv more, r, q => by
    cases r with
    | cons r1 r2 =>
      cases q with
      | cons one more' =>
        have z := r1.1
        dsimp only at z
        have h1 := key_reads (h := h) he
        rw [← z] at h1
        exact .cons h1 (keys_read more r2 more')
mutual
theorem Dq.reads (I : Inv X pins σ H s) : ∀ (d : PyData) (v : V) (u : Value), Dq H v d → RelV v u → ∃ as, Reads s.heap u d as ∧ sysModules ∉ as
  | .none, _, _, h, r => by
    cases h
    cases r
    exact ⟨_, .none, List.not_mem_nil⟩
  | .bool b, _, _, h, r => by
    cases h
    cases r
    exact ⟨_, .bool b, List.not_mem_nil⟩
  | .int i, _, _, h, r => by
    cases h
    obtain ⟨t, rfl⟩ := r
    exact ⟨_, .int i t, List.not_mem_nil⟩
  | .str x, _, _, h, r => by
    cases h
    obtain ⟨t, rfl⟩ := r
    exact ⟨_, .str x t, List.not_mem_nil⟩
  | .list ds, _, _, h, r => by
    cases h with
    | lst at_ low rest =>
      cases r
      obtain ⟨_, its, n, rv, ho⟩ := I.hok _ _ at_
      obtain ⟨as, hr, hno⟩ := DqAll.reads I ds _ its rest rv
      refine ⟨_, Reads.list (vs := its.toArray) ho rfl rfl hr, fun hm => ?_⟩
      rcases List.mem_cons.mp hm with e | hm
      · rw [← e] at low
        exact absurd low (by decide)
      · exact hno hm
  | .tuple ds, _, _, h, r => by
    cases h with
    | tup at_ rest =>
      cases r
      obtain ⟨_, its, rv, o, ho, hc, n, hd⟩ := I.hok _ _ at_
      obtain ⟨as, hr, hno⟩ := DqAll.reads I ds _ its rest rv
      exact ⟨_, Reads.tuple ho hc hd hr, hno⟩
  | .dict ds, _, _, h, r => by
    cases h with
    | dct at_ rest =>
      cases r
      obtain ⟨_, low, us, rkv, o, es, ep, ho, hx, hd, _, hp, _⟩ := I.hok _ _ at_
      obtain ⟨as, hr, hno⟩ := DqKv.reads I ds _ us es.toList rest rkv hp
      have hk := keys_read (h := s.heap) hp rkv rest
      refine ⟨_, Reads.dict ho hx.1 hd hk hr, fun hm => ?_⟩
      rcases List.mem_cons.mp hm with e | hm
      · rw [← e] at low
        exact absurd low (by decide)
      · exact hno (by simpa using hm)
theorem DqAll.reads (I : Inv X pins σ H s) : ∀ (ds : List PyData) (vs : List V) (us : List Value), DqAll H vs ds → Vals vs us → ∃ as, ReadsAll s.heap us ds as ∧ sysModules ∉ as
  | [], _, _, h, r => by
    cases h
    cases r
    exact ⟨_, .nil, List.not_mem_nil⟩
  | d :: ds, _, _, h, r => by
    cases h with
    | cons one more =>
      cases r with
      | cons r1 r2 =>
        obtain ⟨as, q1, n1⟩ := Dq.reads I d _ _ one r1
        obtain ⟨bs, q2, n2⟩ := DqAll.reads I ds _ _ more r2
        refine ⟨_, .cons q1 q2, fun hm => ?_⟩
        rcases List.mem_append.mp hm with z | z
        · exact n1 z
        · exact n2 z
theorem DqKv.reads (I : Inv X pins σ H s) : ∀ (ds : List (PyData × PyData)) (kvs : List (Key × V)) (us : List (Key × Value)) (es : List DictEntry), DqKv H kvs ds → KV kvs us → Pairs (mixKind X.prog X.w) es us →
    ∃ as, ReadsAll s.heap (es.map (·.val)) (ds.map (·.2)) as ∧ sysModules ∉ as
  | [], _, _, _, h, r, p => by
    cases h
    cases r
    cases p
    exact ⟨_, .nil, List.not_mem_nil⟩
  | (k, d) :: ds, _, _, _, h, r, p => by
    cases h with
    | cons one more =>
      cases r with
      | cons r1 r2 =>
        cases p with
        | cons he hv hp =>
          have r3 := r1.2
          dsimp only at r3
          rw [← hv] at r3
          obtain ⟨as, q1, n1⟩ := Dq.reads I d _ _ one r3
          obtain ⟨bs, q2, n2⟩ := DqKv.reads I ds _ _ _ more r2 hp
          refine ⟨_, .cons q1 q2, fun hm => ?_⟩
          rcases List.mem_append.mp hm with z | z
          · exact n1 z
          · exact n2 z
end
end
/-! ### repr(x), x data; nothing is being shown meanwhile (gd) -/
section
variable {X : Cx}
theorem call_repr (gd : X.A.guards = some []) (hu : X.A.units + 64 < cLine) :
    CallR X (.builtin "repr") (fun xs H Q => ∃ (v : V) (d : PyData), xs = [v] ∧ Dq H v d ∧ d.showable = true ∧ d.depth ≤ 60 ∧ d.shown.length ≤ sizeLine ∧ Q (.str d.shown) H) := by
  intro pins s σ H xs us Q I r h
  obtain ⟨v, d, rfl, hd, hs, hn, hz, q⟩ := h
  cases r with
  | @cons _ u _ _ ru rn =>
    cases rn
    obtain ⟨as, hr, hno⟩ := Dq.reads I d v u hd ru
    have fin : ∀ h' (t : Tok) tk, (∀ b o, s.heap.get? b = some o → h'.get? b = some o) → EP X pins σ Q (.str d.shown t) { s with heap := h', toks := tk } :=
      fun h' t tk k => ⟨.str d.shown, H, I.kept k, ⟨_, rfl⟩, q⟩
    cases hr with
    | none => exact PySem.P.repr_of_none (fin s.heap _ _ fun _ _ z => z)
    | bool b => exact PySem.P.repr_of_bool (fin s.heap _ _ fun _ _ z => z)
    | int i t => exact PySem.P.repr_of_int (of_decide_eq_true (by simpa [PyData.showable] using hs)) (fin s.heap _ _ fun _ _ z => z)
    | str x t => exact PySem.P.repr_of_str (fin s.heap _ _ fun _ _ z => z) (by simpa [PyData.shown] using hz)
    | list h1 h2 h3 h4 => exact repr_of_reads' (.list h1 h2 h3 h4) hs (fun _ => hno) gd (by omega) (fun _ _ z => z) fin hz
    | tuple h1 h2 h3 h4 => exact repr_of_reads' (.tuple h1 h2 h3 h4) hs (fun _ => hno) gd (by omega) (fun _ _ z => z) fin hz
    | dict h1 h2 h3 h4 h5 => exact repr_of_reads' (.dict h1 h2 h3 h4 h5) hs (fun _ => hno) gd (by omega) (fun _ _ z => z) fin hz
end
end V1

set_option maxHeartbeats 4000000
/-! V1: exceptions as values: made, asked for their class, their field read -/
namespace V1
open PySem PySem.Spec PyProof.Rows L2
def veB : List Value := [.type "ValueError", .type "Exception", .type "BaseException", .type "object"]
/-- the object at C is an exception class over ValueError's maker, its further bases bm -/
def clsB (K : PySem.W.Frag) (C : Addr) (bm : List Value) : Bool := match K.lookup C with
  | some ⟨.type "type", _, .cls cd, sl⟩ => (match sl.toList with
    | [_, _, _, _, some (.builtin n), _] => decide (cd.mro = .ref C :: bm) && (n == "ValueError.__new__" && (cd.hasDict && (!cd.hasDel)))
    | _ => false)
  | _ => false
def oexB (K : PySem.W.Frag) (C : Addr) (bm : List Value) : Bool :=
  clsB K C bm && (decide (PySem.W.findIn K (.ref C) "__setattr__" = some (some (.builtin "object.__setattr__"))) &&
    (decide (PySem.W.findIn K (.ref C) "__getattribute__" = some (some (.builtin "BaseException.__getattribute__"))) &&
      (decide (PySem.W.findIn K (.ref C) "__getattr__" = some none) && (decide (PySem.W.findIn K (.ref C) "__class__" = some (some (.builtin "object.__class__"))) && PySem.W.keepIn K (.ref C)))))
/-- what isinstance asks of object.__class__ -/
def clsAttrB (K : PySem.W.Frag) : Bool := decide (PySem.W.specialIn K (.builtin "object.__class__") "__get__" = some (some (.builtin "getset_descriptor.__get__"))) && decide (PySem.W.takesIn K (.builtin "object.__class__") = some true)
structure ExK (K : PySem.W.Frag) (C : Addr) (bm : List Value) : Prop where
  cls : ∃ nm q N bs sn sub ab col dd k0 k1 k2 k3 k5, K.lookup C = some (excClassObj nm q C N bs bm true sn sub ab col dd k0 k1 k2 k3 k5 "ValueError.__new__")
  sa : PySem.W.findIn K (.ref C) "__setattr__" = some (some (.builtin "object.__setattr__"))
  ga : PySem.W.findIn K (.ref C) "__getattribute__" = some (some (.builtin "BaseException.__getattribute__"))
  gg : PySem.W.findIn K (.ref C) "__getattr__" = some none
  cl : PySem.W.findIn K (.ref C) "__class__" = some (some (.builtin "object.__class__"))
  kp : PySem.W.keepIn K (.ref C) = true
structure ClsAttr (K : PySem.W.Frag) : Prop where
  gs : PySem.W.specialIn K (.builtin "object.__class__") "__get__" = some (some (.builtin "getset_descriptor.__get__"))
  tk : PySem.W.takesIn K (.builtin "object.__class__") = some true
theorem clsAttr_of {K : PySem.W.Frag} (h : clsAttrB K = true) : ClsAttr K := ⟨of_decide_eq_true (Bool.and_eq_true_iff.mp h).1, of_decide_eq_true (Bool.and_eq_true_iff.mp h).2⟩
theorem exK_of {K : PySem.W.Frag} {C : Addr} {bm : List Value} (h : oexB K C bm = true) : ExK K C bm := by
  unfold oexB at h
  simp only [Bool.and_eq_true, decide_eq_true_eq] at h
  obtain ⟨h1, h2, h3, h4, h5, h6⟩ := h
  refine ⟨?_, h2, h3, h4, h5, h6⟩
  unfold clsB at h1
  split at h1
  · rename_i dd cd sl lk
    split at h1
    · rename_i k0 k1 k2 k3 n k5 hs
      simp only [Bool.and_eq_true, decide_eq_true_eq, beq_iff_eq, Bool.not_eq_true'] at h1
      obtain ⟨g1, g2, g3, g4⟩ := h1
      obtain ⟨nm, bs, mro, ns, qn, hd, sn, sb, ab, col, del⟩ := cd
      dsimp only at g1 g3 g4
      subst g1 g2 g3 g4
      obtain ⟨sl⟩ := sl
      dsimp only at hs
      subst hs
      exact ⟨nm, qn, ns, bs, sn, sb, ab, col, dd, k0, k1, k2, k3, k5, lk⟩
    · cases h1
  · cases h1
section
variable {K : PySem.W.Frag} {C D : Addr} {bm : List Value}
theorem ExK.clsIn (T : ExK K C bm) : ∃ cd, PySem.W.clsIn K C = some cd ∧ cd.mro = .ref C :: bm ∧ cd.hasDict = true := by
  obtain ⟨nm, q, N, bs, sn, sub, ab, col, dd, k0, k1, k2, k3, k5, e⟩ := T.cls
  unfold PySem.W.clsIn
  rw [e]
  exact ⟨_, rfl, rfl, rfl⟩
theorem ExK.isCls (T : ExK K C bm) : (PySem.W.clsIn K C).isSome = true := by
  obtain ⟨cd, e, _⟩ := T.clsIn
  rw [e] <;> rfl
theorem ExK.hasDict (T : ExK K C bm) : PySem.W.hasDictIn K C = true := by
  obtain ⟨cd, e, _, h⟩ := T.clsIn
  unfold PySem.W.hasDictIn
  rw [e]
  simpa using h
theorem ExK.ty (T : ExK K C bm) : PySem.W.typeIn K (.ref C) = some (.type "type") := by
  obtain ⟨nm, q, N, bs, sn, sub, ab, col, dd, k0, k1, k2, k3, k5, e⟩ := T.cls
  show (K.lookup C).map (·.cls) = _
  rw [e] <;> rfl
theorem ExK.mro (T : ExK K C bm) (v : Value) : PySem.W.mroIn K C v = some ((Value.ref C :: bm).contains v) := by
  obtain ⟨cd, e, h, _⟩ := T.clsIn
  unfold PySem.W.mroIn
  rw [e, Option.bind_some, h] <;> rfl
theorem ExK.sub (T : ExK K C bm) (v : Value) : PySem.W.subIn K (.ref C) v = some ((Value.ref C :: bm).contains v) := T.mro v
/-- isinstance of the class's objects -/
theorem ExK.kit (T : ExK K C bm) (T' : ExK K D bm') : PySem.W.kitOne K (.ref C) (.ref D) = some (decide (C = D) || bm.contains (.ref D)) := by
  unfold PySem.W.kitOne
  by_cases e : C = D
  · subst e
    rw [if_pos (by simp)]
    simp
  · have ne : ¬ ((Value.ref C == Value.ref D) = true) := by simpa using e
    rw [if_neg ne]
    show (if ((PySem.W.clsIn K D).isSome && PySem.W.typeIn K (.ref D) == some (.type "type")) = true then PySem.W.subIn K (.ref C) (.ref D) else none) = _
    rw [T'.isCls, T'.ty, if_pos (by simp), T.sub, List.contains_cons]
    have e2 : ¬ D = C := fun z => e z.symm
    simp [e, e2]
theorem ExK.kitT (T : ExK K C bm) {n : String} (hm : PySem.W.kitMeta n = true) : PySem.W.kitOne K (.ref C) (.type n) = some (bm.contains (.type n)) := by
  unfold PySem.W.kitOne
  rw [if_neg (show ¬ ((Value.ref C == Value.type n) = true) from by simp)]
  show (if PySem.W.kitMeta n = true then PySem.W.subIn K (.ref C) (.type n) else none) = _
  rw [if_pos hm, T.sub, List.contains_cons]
  simp
/-- an except clause's class -/
theorem ExK.exm (T : ExK K C bm) (T' : ExK K D bm') (hb : (Value.ref D :: bm').contains (.type "BaseException") = true) : PySem.W.exmOne K (.ref C) (.ref D) = some (decide (C = D) || bm.contains (.ref D)) := by
  have h1 : PySem.W.subIn K (.ref D) (.type "BaseException") = some true := by rw [T'.sub, hb]
  have h2 : PySem.W.subIn K (.ref C) (.ref D) = some (decide (C = D) || bm.contains (.ref D)) := by
    rw [T.sub, List.contains_cons]
    by_cases e : C = D
    · subst e; simp
    · have e2 : ¬ D = C := fun z => e z.symm
      simp [e, e2]
  exact PySem.W.exm_ref h1 T'.hasDict T'.ty h2
theorem ExK.oex (T : ExK K C bm) (hr : PySem.HandSPX.refsVE bm = true) (hb : (Value.ref C :: bm).contains (.type "BaseException") = true) : OexC K C := by
  obtain ⟨nm, q, N, bs, sn, sub, ab, col, dd, k0, k1, k2, k3, k5, e⟩ := T.cls
  exact ⟨⟨nm, q, N, bs, bm, sn, sub, ab, col, dd, k0, k1, k2, k3, k5, e, hr⟩, T.sa, by rw [T.sub, hb], T.ty, T.kp⟩
end
/-- at a stands an exception of the class at C; its own fields fs, if it has a dict of them -/
def IsEx (H : Hp) (a C : Addr) : Option (List (Str × V)) → Prop
  | none => H a = some (ExO (.ref C) a)
  | some fs => ∃ dx, H a = some (exo a C (some dx)) ∧ H dx = some (exd dx fs)
theorem IsEx.same {H H' : Hp} {a C : Addr} {o : Option (List (Str × V))} (e : Same H H') (h : IsEx H a C o) : IsEx H' a C o := by
  cases o with
  | none => exact e _ _ h
  | some fs =>
    obtain ⟨dx, h1, h2⟩ := h
    exact ⟨dx, e _ _ h1, e _ _ h2⟩
section
variable {X : Cx} {pins : List (Addr × Obj)} {σ : L2.St} {H : Hp} {s : Shared} {a C : Addr} {o : Option (List (Str × V))}
theorem IsEx.inst (I : Inv X pins σ H s) (h : IsEx H a C o) : ∃ oe od, PySem.W.InstAt s.heap a oe C od ∧ ∀ fs, o = some fs → ∃ (od' : Obj) (mA : Str → Option Value), od = some od' ∧ (∀ n, PySem.W.lookIn n od' = some (mA n)) ∧ ∀ f, RelO (fs.lookup f) (mA f) := by
  cases o with
  | none =>
    obtain ⟨⟨oe, vs, he, hz, hd, _⟩, _, _⟩ := I.hok a _ h
    refine ⟨oe, none, ⟨he, hz.1, by unfold PySem.W.notCls; rw [hd] <;> rfl, by rw [hz.2]; exact True.intro⟩, fun fs z => nomatch z⟩
  | some fs =>
    obtain ⟨dx, h1, h2⟩ := h
    obtain ⟨t1, he⟩ := exo_at I.hok h1
    obtain ⟨mA, hns, rel⟩ := exd_at I.hok h2
    obtain ⟨od, ho, hl⟩ := lookIn_ns hns
    refine ⟨_, some od, ⟨he, rfl, rfl, ho⟩, fun fs' z => ?_⟩
    cases z
    exact ⟨od, mA, rfl, fun n => hl n, rel⟩
end
/-! ### isinstance(e, c) -/
def rIsiX (K : PySem.W.Frag) : List V → Hp → VK → Prop := fun xs H Q => ∃ (a C : Addr) (o : Option (List (Str × V))) (bm : List Value) (c : V) (u : Value) (b : Bool), xs = [.ref a, c] ∧ IsEx H a C o ∧ ExK K C bm ∧ ClsAttr K ∧
  (Value.ref C :: bm).contains (.type "BaseException") = true ∧ (Value.ref C :: bm).contains (.type "object") = true ∧ ClsV c u ∧ PySem.W.kitOne K (.ref C) u = some b ∧ Q (.bl b) H
theorem call_isiX {X : Cx} : CallR X (.builtin "isinstance") (rIsiX X.K) := by
  intro pins s σ H xs us Q I r h
  obtain ⟨a, C, o, bm, c, u, b, rfl, hx, T, cA, hB, hO, k, e, q⟩ := h
  obtain ⟨w1, w2, rfl, r1, r2⟩ := vals2 r
  obtain rfl : w1 = Value.ref a := r1
  have e2 := k.eq r2
  subst e2
  obtain ⟨oe, od, J, _⟩ := hx.inst I
  exact PySem.W.kia_one (PySem.W.kitx_exc T.isCls T.ga T.gg (by rw [T.sub, hB]) T.cl cA.gs cA.tk (by rw [T.mro, hO])) I.kIn J e (fun z => nomatch z) fun tk => ⟨.bl b, H, I.tok tk, rfl, q⟩
/-! ### e.f of such -/
def tEf (K : PySem.W.Frag) (f : Str) (te : TE) : TE := fun σ H Q => te σ H fun x H1 => ∃ (a C : Addr) (fs : List (Str × V)) (bm : List Value) (v : V), x = .ref a ∧ IsEx H1 a C (some fs) ∧ ExK K C bm ∧ (Value.ref C :: bm).contains (.type "BaseException") = true ∧
  PySem.W.findIn K (.ref C) f = some none ∧ fs.lookup f = some v ∧ Q v H1
theorem pe_ef {X : Cx} {e : Expr} {te : TE} {pos : Pos} {n : Str} (he : PE X e te) (hb : attributeBase e n X.env (eval e X.env) = eval e X.env := by rfl) : PE X (.Attribute e n pos) (tEf X.K n te) := by
  refine ⟨fun pins s σ H Q I h => ?_⟩
  refine attr_of hb (thn (he.run pins s σ H _ I h) fun u s1 hh => ?_)
  obtain ⟨x, H1, J1, rx, a, C, fs, bm, v, rfl, hx, T, hB, hno, hl, q⟩ := hh
  obtain rfl : u = Value.ref a := rx
  obtain ⟨oe, od, J, hf⟩ := hx.inst J1
  obtain ⟨od', mA, rfl, look, rel⟩ := hf fs rfl
  obtain ⟨u, hu, ru⟩ := RelO.some_of (v := v) (o := mA n) (by rw [← hl]; exact rel n)
  exact HandSPX.exc_get J1.kIn J T.ga T.gg (by rw [T.sub, hB]) (PySem.W.findObj_own T.hasDict hno rfl (by rw [look, hu])) (handed_of ru) ⟨v, H1, J1.tok _, ru, q⟩
/-! ### C(e, ..) with an own __init__, kept as a value -/
def tMkV (C : Addr) (sp : Sp) (dvs : List V) (ta : TA) : TE := fun σ H Q => ta σ H fun vs H1 => vs.length ≤ 1000 ∧ ∀ a, H1 a = none → sp (.ref a :: (vs ++ dvs)) (upd H1 a (exo a C none)) (fun v H2 => v = .non ∧ Q (.ref a) H2) (fun _ _ _ => False)
theorem pe_mkV {X : Cx} {CX : CXT} {x : Str} {C fI : Addr} {k : Nat} {fd : FuncData} {ps : List Str} {sp : Sp} {ds : List Value} {dvs : List V} {e : Expr} {es : List Expr} {ta : TA} {p pos : Pos} (T : OexC X.K C)
    (iC : PySem.W.findIn X.K (.ref C) "__init__" = some (some (.ref fI))) (tI : PySem.W.typeIn X.K (.ref fI) = some (.type "function"))
    (F1 : FnOk X.prog X.w X.K X.mg X.base CX k fI fd ps sp) (hr : Room (k + 1) X.A) (hb : Binds X.K fd ps ds) (hd : Vals dvs ds) (hx : Passes CX X (fun _ _ _ => False)) (hg : Gl X x) (hm : X.mg x = some (.ref C)) (ha : PA X (e :: es) ta)
    (hdb : (x == ("__debug__" : Str)) = false := by decide) (he : starEach (e :: es) X.env = (false, eval e X.env) :: starEach es X.env := by rfl) (hpl : (backTo pos (starEach es X.env)).any (·.1) = false := by rfl) :
    PE X (.Call (.Name x p) (e :: es) [] pos) (tMkV C sp dvs ta) := by
  refine ⟨fun pins s σ H Q I h => ?_⟩
  obtain ⟨nm, q, N, bs, bm, sn, sub, ab, col, dd, k0, k1, k2, k3, k5, hC, hbm⟩ := T.cls
  refine wpAny_Call_Name_kw (ld_glob I hg hm ?_ hdb)
  refine PySem.W.callWith_K (h₀ := X.base) I.ok.mod.kin T.kC (thn (ha.run pos pins s σ H _ I h) fun us st hh => ⟨hh.choose_spec.choose_spec.1.kIn, ?_⟩) he hpl
  obtain ⟨vs, H1, J, rv, hz, qq⟩ := hh
  show wpAny _ _ (call (.ref C) us) _ _ _
  obtain ⟨hp, g, dr, tk, os⟩ := st
  let n := hp.objs.size
  have nn : H1 (n + 1) = none := J.hok.fresh (Nat.le_succ n)
  have go := qq (n + 1) nn
  let hp2 := (hp.push (PySem.W.kdv_tup us)).push (PySem.HandSPX.excO C n)
  have kk : ∀ b ob, hp.get? b = some ob → hp2.get? b = some ob := fun b ob z => Heap.get?_push_of_some _ (Heap.get?_push_of_some _ z)
  have top : hp2.get? (n + 1) = some (PySem.HandSPX.excO C n) := by
    show ((hp.push (PySem.W.kdv_tup us)).push (PySem.HandSPX.excO C hp.objs.size)).get? (hp.objs.size + 1) = _
    heap_get
  have J2 : Inv X pins σ (upd H1 (n + 1) (exo (n + 1) C none)) ⟨hp2, g, dr, tk, os⟩ := J.laid (t' := tk) (a := n + 1) (h' := hp2) kk (Nat.le_succ n) (exo_ok top)
  have rr : Vals (V.ref (n + 1) :: (vs ++ dvs)) (Value.ref (n + 1) :: (us ++ ds)) := .cons rfl (rv.append hd)
  have len : (Value.ref (n + 1) :: us ++ ds).length = ps.length := (rr.length.symm.trans (F1.len _ _ _ _ go))
  have short : us.length ≤ sizeLine := by
    have z := Paired.length rv
    rw [sizeLine_eq]
    omega
  refine wpAny_call (PySem.HandSPX.call_own F.excBase_ValueError (fun Y => PySem.HandSPX.refsVE_contains Y bm hbm) (J.kIn _ _ hC) (PySem.W.looks_findIn J.kIn iC) (fun self => PySem.W.bind_fn J.kIn self tI) short
    (codeAny_mono (F1.run _ X.stack _ _ ⟨Value.ref (n + 1) :: us, []⟩ (Value.ref (n + 1) :: (us ++ ds)) _ _ (fun _ _ _ => False) (hr.make C us []) (J2.env0.make C us []) (hb _ (Value.ref (n + 1) :: us) J2.kIn len) rr go) fun r s' hq => ?_))
  cases r with
  | error er => exact hx pins σ _ _ er s' J2 hq
  | ok fl =>
    cases fl with
    | ret u =>
      obtain ⟨v, H2, o2, b2, un2, ok2, rv2, ev, qv⟩ := hq
      subst ev
      refine ⟨rv2, .ref (n + 1), H2, ?_, rfl, qv⟩
      obtain ⟨h', g', d', t', os'⟩ := s'
      exact J.call' (ch := []) o2 (Un.trans (Un.laid kk (Nat.le_succ n) nn) un2) ok2 b2 (fun b z => absurd z (by simp))
    | next => exact False.elim hq
    | brk => exact False.elim hq
    | cont => exact False.elim hq
/-! ### C(), an own exception class without own __init__ -/
def tMk0 (C : Addr) : TE := fun _ H Q => ∀ a, H a = none → Q (.ref a) (upd H a (ExO (.ref C) a))
theorem pe_mk0 {X : Cx} {C : Addr} {bmB : List Value} {B newId initId : String} {x : Str} {p pos : Pos} (F : ExcBaseFacts B newId initId bmB) (q : PySem.W.excIn X.K C bmB newId = true) (gC : X.mg x = some (.ref C)) (kC : PySem.W.keepIn X.K (.ref C) = true) (hg : Gl X x)
    (hdb : (x == ("__debug__" : Str)) = false := by decide) : PE X (.Call (.Name x p) [] [] pos) (tMk0 C) := by
  refine ⟨fun pins s σ H Q I h => ?_⟩
  refine wpAny_Call_Name_kw (ld_glob I hg gC ?_ hdb)
  refine PySem.W.callWith_K0 I.kIn kC ?_
  obtain ⟨bm, N, nm, qn, bs, hdct, sn, sub, ab, col, dd, k0, k1, k2, k3, k5, mN, hC, hN, hni, T⟩ := exc_obj I.kIn q
  refine wpAny_call_exc_subT F T hC hN hni (fun h' a hm => ?_) (Nat.zero_le _)
  have hn : H a = none := I.hok.gone hm.new
  obtain ⟨t, ht, _, _⟩ := hm.there
  exact ⟨.ref a, _, I.laidN hm.keeps hm.new hn (exO_ok ht ⟨rfl, rfl⟩ rfl rfl rfl (show 4 < 6 by decide)), rfl, h a hn⟩
end V1

set_option maxHeartbeats 4000000
/-! V1: try with any number of except clauses, each with or without a name -/
namespace V1
open PySem PySem.Spec PyProof.Rows L2
/-- a clause: its class, the slot of its name if it has one, its suite's reading -/
abbrev Cl : Type := Value × Option Nat × (Addr → Value → Option Addr → TS)
/-- where a suite's ends lead once the clause's name is let go of -/
def offD (i : Nat) (D : Ends) : Ends := { nx := fun σ H => D.nx (σ.set i none) H, rt := D.rt, bk := fun σ H => D.bk (σ.set i none) H, ct := fun σ H => D.ct (σ.set i none) H }
def suiteD (D : Ends) (a : Addr) (cls : Value) (d : Option Addr) (ts : Addr → Value → Option Addr → TS) (σ : L2.St) (H : Hp) : Option Nat → Prop
  | none => ts a cls d D σ H
  | some i => ts a cls d (offD i D) (σ.set i (some (.ref a))) H
/-- what the clauses wish of an exception that leaves the body -/
def wCl (K : PySem.W.Frag) (Wout : WX) (D : Ends) : List Cl → WX
  | [] => Wout
  | (c, o, ts) :: more => fun cls d σ H => ∃ yes, PySem.W.exmOne K cls c = some yes ∧ (yes = true → ∀ a, H a = none → suiteD D a cls d ts σ H o) ∧ (yes = false → wCl K Wout D more cls d σ H)
inductive Hds (X : Cx) : List ExceptHandler → List Cl → Prop
  | nil : Hds X [] []
  | plain {x : Str} {c : Value} {ts : Addr → Value → Option Addr → TS} {st : Stmt} {sts : List Stmt} {p1 p2 : Pos} {hds : List ExceptHandler} {l : List Cl} (nm : Names X x c)
      (su : ∀ (a : Addr) (oe : Obj) (cls : Value) (d : Option Addr) (pn : List (Addr × Obj)), Zc cls d oe → (∃ vs, oe.data = .fields vs) → PSs (X.suite a ((a, oe) :: pn)) (st :: sts) (ts a cls d)) (more : Hds X hds l) :
      Hds X (.ExceptHandler (some (.Name x p1)) none (st :: sts) p2 :: hds) ((c, none, ts) :: l)
  | named {x n : Str} {i : Nat} {c : Value} {ts : Addr → Value → Option Addr → TS} {st : Stmt} {sts : List Stmt} {p1 p2 : Pos} {hds : List ExceptHandler} {l : List Cl} (at_ : X.N[i]? = some n) (loc : X.env.kindOf n = some .local) (nm : Names X x c)
      (su : ∀ (a : Addr) (oe : Obj) (cls : Value) (d : Option Addr) (pn : List (Addr × Obj)), Zc cls d oe → (∃ vs, oe.data = .fields vs) → PSs (X.suite a ((a, oe) :: pn)) (st :: sts) (ts a cls d)) (more : Hds X hds l) :
      Hds X (.ExceptHandler (some (.Name x p1)) (some n) (st :: sts) p2 :: hds) ((c, some i, ts) :: l)
/-- an exception of the body that was met: all that the clauses may lean on -/
theorem ps_try_cl {X : Cx} {body : List Stmt} {hd : ExceptHandler} {hds : List ExceptHandler} {l : List Cl} {pos : Pos} {tb : WX → TS} {Wout : WX} (stk : X.stack = X.env :: X.outer) (fr : X.env.frame = some X.env.locals) (nd : X.N.Nodup) (tk : Takes X Wout)
    (hb : ∀ (W : WX) (pn : List (Addr × Obj)) (xe : Value → Shared → Prop), Takes (X.tr pn xe) W → PassesOwn (model X.prog X.w) X.A X.env xe → PSs (X.tr pn xe) body (tb W))
    (cl : Hds X (hd :: hds) l) : PS X (.Try body (hd :: hds) [] [] pos) (fun D σ H => tb (wCl X.K Wout D l) D σ H) := by
  refine ⟨fun pins s σ H D I go => ?_⟩
  have ok := I.ok
  have frames : X.A.frames = some (X.env :: X.outer) := by
    rw [ok.frames, stk]
  refine wpAny_Try_except ?_
  refine wpAny_mono ((hb (wCl X.K Wout D l) (X.pn ++ pins) (fun e z1 => wpAny (model X.prog X.w) X.A (noteFrame e X.env)
    (fun _ z2 => wpAny (model X.prog X.w) X.A (setFlight e none) (fun _ z3 => wpAny (model X.prog X.w) X.A (handleBy e X.env (hd :: hds)) (SP X pins D) X.xe z3) X.xe z2) X.xe z1)
    (fun u sE met => ?_) PassesOwn.looking).run [] s σ H D (I.toTry _) go) (fun f s1 out => ?_) (fun _ _ he => he)
  · obtain ⟨a, B, sI, pins', σ', H', cls, d, rfl, J', nb, up, sky, na, os, ag, wish⟩ := met
    have J : Inv X pins σ' H' sI := J'.ofTry ok
    have air : Sky B (X.env :: X.outer) a (Zc cls d) X.env.locals sE.heap := by
      rw [← stk]
      exact sky
    show wpAny (model X.prog X.w) X.A (noteFrame (.ref a) X.env) _ _ _
    refine Sky.land Zc.steady frames fr air fun h3 fl up3 => ?_
    have J3 : Inv X pins σ' H' { sE with heap := h3 } := J.landed nb fl.1 (up.trans up3) os ag
    obtain ⟨oe, vs, there, zc, dat⟩ := fl.there
    have off : a ∉ frs (X.env :: X.outer) := fun hm => by
      obtain ⟨_, ob, eo, hnf⟩ := fl.2.2.1.mem hm
      rw [there] at eo
      cases eo
      exact hnf _ dat
    have offL : a ≠ X.env.locals := fun z => off (List.mem_filterMap.mpr ⟨X.env, List.mem_cons_self, by rw [fr, z]⟩)
    have offF : a ∉ X.fs := fun hm => by
      obtain ⟨en, hen, q⟩ := List.mem_filterMap.mp hm
      exact off (List.mem_filterMap.mpr ⟨en, List.mem_cons_of_mem _ hen, q⟩)
    have S3 := J3.suite there dat na offL offF
    -- one clause's test
    have ask : ∀ {x : Str} {c : Value} {p1 : Pos} {Q : Value → Shared → Prop} {E : Value → Shared → Prop}, Names X x c → Q c { sE with heap := h3 } →
        wpAny (model X.prog X.w) (X.A.mark (some (.ref a))) (eval (.Name x p1) X.env) Q E { sE with heap := h3 } := fun {x c p1 Q E} nm q => by
      obtain ⟨g, nodebug, m | ⟨m, bv, notname⟩⟩ := nm
      · exact ld_glob (X := X.suite a ((a, oe) :: (X.pn ++ pins))) S3 g m q nodebug
      · exact ld_blt (X := X.suite a ((a, oe) :: (X.pn ++ pins))) S3 g m bv q notname nodebug
    have typ : PySem.W.Looks (model X.prog X.w) h3 (typeOf (.ref a)) cls := fun _ _ _ z k q => wpAny_typeOf_ref (k _ _ there) (by rw [zc.1]; exact q)
    have through : ∀ {hs : List ExceptHandler} {ls : List Cl}, Hds X hs ls → wCl X.K Wout D ls cls d σ' H' →
        wpAny (model X.prog X.w) X.A (handleBy (.ref a) X.env hs) (SP X pins D) X.xe { sE with heap := h3 } := by
      intro hs ls hk
      induction hk with
      | nil =>
        intro w
        refine wpAny_handleBy_nil ?_
        obtain ⟨_, _, _, ob, us, T, _, _, e1, _, e3, e4, _⟩ := id fl
        unfold PySem.passOn
        refine wpAny_bind (wpAny_field e1 e3 e4 ?_)
        rw [if_neg (show ¬ ((Value.ref T == Value.none) = true) from by simp)]
        have last : wpAny (model X.prog X.w) X.A (setFlight (.ref a) X.env.frame) (fun _ z => wpAny (model X.prog X.w) X.A (throw (.ref a) : Sem Flow) (SP X pins D) X.xe z) X.xe { sE with heap := h3 } := by
          rw [fr]
          refine HandSPX.setFlight_upZ fl fun h4 held up4 => wpAny_throw (tk _ _ ?_)
          refine ⟨a, B, sI, pins, σ', H', cls, d, rfl, J, nb, (up.trans up3).trans up4, .inr (.inr ?_), na, os, ag, w⟩
          rw [stk]
          exact held
        first
          | exact wpAny_bind (wpAny_pure (wpAny_bind last))
          | exact wpAny_bind last
      | @plain x c ts st sts p1 p2 hs2 ls2 nm su more ih =>
        intro w
        obtain ⟨yes, hy, onYes, onNo⟩ := w
        refine wpAny_handleBy_cons (codeAny_handlers_test ?_) (by intro q; cases q)
        refine ask nm ((PySem.W.exm_one (M := model X.prog X.w) J3.kIn typ hy).here ?_)
        cases yes with
        | false => exact ih (onNo rfl)
        | true =>
          refine codeAny_handlers_suite ?_
          refine HandSPX.lands_againZ fl fun h4 fl4 up4 => ?_
          have J4 : Inv X pins σ' H' { sE with heap := h4 } := J.landed nb fl4.1 ((up.trans up3).trans up4) os ag
          obtain ⟨oe4, vs4, th4, zc4, dat4⟩ := fl4.there
          refine wpAny_mono ((su a oe4 cls d (X.pn ++ pins) zc4 ⟨_, dat4⟩).run [] _ _ H' _ (J4.suite th4 dat4 na offL offF) (onYes rfl a na)) (fun f s6 out => ?_) (fun _ _ z => False.elim z)
          cases f with
          | next => exact let ⟨_, _, S6, q6⟩ := out; ⟨_, _, S6.unsuite ok, q6⟩
          | brk => exact let ⟨_, _, S6, q6⟩ := out; ⟨_, _, S6.unsuite ok, q6⟩
          | cont => exact let ⟨_, _, S6, q6⟩ := out; ⟨_, _, S6.unsuite ok, q6⟩
          | ret u => exact let ⟨_, _, _, S6, r6, q6⟩ := out; ⟨_, _, _, S6.unsuite ok, r6, q6⟩
      | @named x n i c ts st sts p1 p2 hs2 ls2 at_ loc nm su more ih =>
        intro w
        obtain ⟨yes, hy, onYes, onNo⟩ := w
        refine wpAny_handleBy_cons (codeAny_handlers_test ?_) (by intro q; cases q)
        refine ask nm ((PySem.W.exm_one (M := model X.prog X.w) J3.kIn typ hy).here ?_)
        cases yes with
        | false => exact ih (onNo rfl)
        | true =>
          refine codeAny_handlers_suite_as ?_
          refine HandSPX.lands_againZ fl fun h4 fl4 up4 => ?_
          have J4 : Inv X pins σ' H' { sE with heap := h4 } := J.landed nb fl4.1 ((up.trans up3).trans up4) os ag
          obtain ⟨oe4, vs4, th4, zc4, dat4⟩ := fl4.there
          refine store_ok (X := X.suite a ((a, oe4) :: (X.pn ++ pins))) (v := .ref a) (J4.suite th4 dat4 na offL offF) nd at_ (.inl loc) rfl (fun s5 S5 => ?_) (.inr loc)
          refine wpAny_mono ((su a oe4 cls d (X.pn ++ pins) zc4 ⟨_, dat4⟩).run [] s5 _ H' _ S5 (onYes rfl a na)) (fun f s6 out => ?_) (fun _ _ z => False.elim z)
          have gone : ∀ {σ6 : L2.St} {H6 : Hp} {Q : Shared → Prop}, Inv (X.suite a ((a, oe4) :: (X.pn ++ pins))) [] σ6 H6 s6 → (∀ s7, Inv X pins (σ6.set i none) H6 s7 → Q s7) →
              wpAny (model X.prog X.w) X.A (do bindName X.env n .none; unbindBehindTheSuite X.env n p2) (fun _ s7 => Q s7) X.xe s6 := fun S6 hq => gone_ok (S6.unsuite ok) nd at_ loc hq
          cases f with
          | next => exact let ⟨_, _, S6, q6⟩ := out; gone S6 fun s7 J7 => ⟨_, _, J7, q6⟩
          | brk => exact let ⟨_, _, S6, q6⟩ := out; gone S6 fun s7 J7 => ⟨_, _, J7, q6⟩
          | cont => exact let ⟨_, _, S6, q6⟩ := out; gone S6 fun s7 J7 => ⟨_, _, J7, q6⟩
          | ret u => exact let ⟨_, _, _, S6, r6, q6⟩ := out; gone S6 fun s7 J7 => ⟨_, _, _, J7, r6, q6⟩
    exact through cl wish
  · cases f with
    | next => exact let ⟨_, _, J, q⟩ := out; wpAny_execs_nil ⟨_, _, J.ofTry ok, q⟩
    | brk => exact let ⟨_, _, J, q⟩ := out; ⟨_, _, J.ofTry ok, q⟩
    | cont => exact let ⟨_, _, J, q⟩ := out; ⟨_, _, J.ofTry ok, q⟩
    | ret u => exact let ⟨_, _, _, J, r, q⟩ := out; ⟨_, _, _, J.ofTry ok, r, q⟩
end V1

set_option maxHeartbeats 4000000
/-! V1: the law's own def, run at the caller of all (nothing is being shown there), and the end over a head by facts -/
namespace V1
open PySem PySem.Spec PyProof.Rows L2
section
variable {P : Program} {w : World} {K : PySem.W.Frag} {mg : Str → Option Value} {base : Heap} {k : Nat} {f : Addr} {fd : FuncData} {x : Str} {sp : Sp}
/-- the law's def keeps sp, called where nothing is being shown; nothing leaves it -/
def LawOk (P : Program) (w : World) (K : PySem.W.Frag) (mg : Str → Option Value) (base : Heap) (f : Addr) (fd : FuncData) (x : Str) (sp : Sp) : Prop :=
  ∀ (s : Shared) (H : Hp) (u : Value) (v : V) (Q : VK), Env0 P w K mg base callerA [] s H → BindsTo s fd ⟨[u], []⟩ [(x, u)] → RelV v u → sp [v] H Q (fun _ _ _ => False) →
    codeAny (model P w) callerA (.call (.ref f) ⟨[u], []⟩) (CR CX0 [] P w H s Q (fun _ _ _ => False)) s
theorem lawOk_of {name qual : Str} {params : Arguments} {body : List Stmt} {scope : Scope} {N : List Str} (F : FunD K name qual params body scope [] [] f fd) (S : FnScope N [x] scope)
    (room : Room (k + 1) callerA)
    (go : ∀ (cdv : Value) (s : Shared) (H : Hp) (v : V) (Q : VK), Room k (callerA.deeper (envOfC qual scope s.heap.objs.size f cdv)) → (callerA.deeper (envOfC qual scope s.heap.objs.size f cdv)).guards = some [] → sp [v] H Q (fun _ _ _ => False) →
      ∃ t, PSs (cxOf CX0 P w K mg base N qual scope f cdv callerA [] s H (fun _ _ _ => False)) body t ∧ t { nx := fun _ H' => Q .non H', rt := Q } (start N [v]) H) :
    LawOk P w K mg base f fd x sp := by
  intro s H u v Q e0 bind rv hs
  obtain ⟨oc, od, dV, kV, doc, pm, an, cdv, ct, osl, rfl, lk, cd, _, _⟩ := F.ex
  have inK : K.In s.heap := e0.mod.kin.keeps fun b o e => (e0.bs b o e).1
  have free : s.heap.NoLimit := e0.mod.nolimit.keeps fun b o e => (e0.bs b o e).1
  have kinds : ∀ y ∈ [(x, u)], scope.names.lookup y.1 = some .local ∨ (scope.names.lookup y.1 = some .cell ∧ ((cellsFrom (s.heap.objs.size + 1) scope.names []).lookup y.1).isSome = true) := by
    intro y hy
    obtain rfl := List.mem_singleton.mp hy
    rcases S.par x (List.mem_singleton.mpr rfl) with q | q
    · exact .inl q
    · exact .inr ⟨q, PySem.W.cellsFrom_some _ _ _ (.inl q)⟩
  refine codeAny_call_function room.depth (inK _ _ lk) rfl S.co S.gen rfl (PySem.W.codeRec_of inK cd) (bind _ _ _ _ ?_)
  refine wpAny_newFunctionEnv_cells S.kind kinds fun env he s1 z => ?_
  subst he
  refine ⟨free.keeps z.toInCall.keep, codeAny_func ?_⟩
  obtain ⟨t, ht, hq⟩ := go cdv s H v Q (room.deeper _) rfl hs
  have I : Inv (cxOf CX0 P w K mg base N qual scope f cdv callerA [] s H (fun _ _ _ => False)) [] (start N [v]) H s1 := inv_start (us := [u]) (ps := [x]) S room.hd e0 rfl (.cons rv .nil) z
  refine wpAny_mono (ht.run [] s1 _ H _ I hq) (fun fl s' out => ?_) fun _ _ z => z
  cases fl with
  | ret u' => exact let ⟨v', _, H', J, r', q⟩ := out; ⟨v', H', J.os, J.bare, J.base, J.hok, r', q⟩
  | next => exact let ⟨_, H', J, q⟩ := out; ⟨.non, H', J.os, J.bare, J.base, J.hok, rfl, q⟩
  | brk => exact let ⟨_, _, _, q⟩ := out; q.elim
  | cont => exact let ⟨_, _, _, q⟩ := out; q.elim
end
/-- from the state at the claim's call -/
theorem law_run {P : Program} {w : World} {K : PySem.W.Frag} {mg mb : Str → Option Value} {fa a : Addr} {fd : FuncData} {x : Str} {sp : Sp} {s : Shared} {vs : List Value} {ns : List Int}
    (KX : K.In s.heap) (gl : s.heap.Ns mainGlobals mg) (bl : s.heap.Ns builtinsNs mb) (boot : ∀ y : Str, y ≠ "__name__" → mb y = bootBuiltins y) (free : s.heap.NoLimit) (gens : s.gens = #[])
    (ha : s.heap.get? a = some { cls := .type "list", data := .seq vs.toArray }) (hints : IntsAre vs ns) (short : ns.length ≤ sizeLine)
    (F : ∀ base : Heap, K.In base → base.Ns mainGlobals mg → LawOk P w K mg base fa fd x sp) (bind : ∀ (s : Shared) (u : Value), BindsTo s fd ⟨[u], []⟩ [(x, u)])
    (hs : ∀ H : Hp, Only H → SqL K H a (ns.map V.int) → sp [.ref a] H (fun v _ => v = .bl true) (fun _ _ _ => False)) :
    codeAny (model P w) callerA (.call (.ref fa) ⟨[.ref a], []⟩) (fun r s' => r = .ok (.ret (.bool true)) ∧ OldK s.heap s'.heap ∧ s'.os = s.os ∧ AllBare s'.gens) s := by
  have rel := vals_ints hints
  have count := hints.length
  let ob : Obj := { cls := .type "list", data := .seq vs.toArray }
  have main : ∀ H : Hp, Only H → SqL K H a (ns.map V.int) → HOk P w H s.heap → (∀ b, H b ≠ none → b = a) → (H a ≠ none → K.lookup a = none) →
      codeAny (model P w) callerA (.call (.ref fa) ⟨[.ref a], []⟩) (fun r s' => r = .ok (.ret (.bool true)) ∧ OldK s.heap s'.heap ∧ s'.os = s.os ∧ AllBare s'.gens) s := by
    intro H only seq hok just notK
    let B := hidT s.heap H
    have noDict : ∀ {b : Addr} {o : Obj} {es : Array DictEntry} {ep : Nat}, s.heap.get? b = some o → o.data = .dict es ep → H b = none := fun {b o es ep} e d => by
      cases q : H b with
      | none => rfl
      | some _ =>
        obtain rfl : b = a := just b (by rw [q]; simp)
        rw [ha] at e
        cases e
        cases (show Data.seq vs.toArray _ = Data.dict es ep from d)
    have space : ∀ {b : Addr} {m : Str → Option Value}, s.heap.Ns b m → B.Ns b m := fun {b m} ⟨o, es, ep, e, d, r⟩ => ⟨o, es, ep, hidT_get e (noDict e d), d, r⟩
    have KB : K.In B := fun b o e => hidT_get (KX b o e) (by
      cases q : H b with
      | none => rfl
      | some _ =>
        obtain rfl : b = a := just b (by rw [q]; simp)
        rw [notK (by rw [q]; simp)] at e
        cases e)
    have M : Mod K mg B := ⟨KB, space gl, ⟨mb, space bl, boot⟩, let ⟨mc, h1, h2⟩ := free; ⟨mc, space h1, h2⟩⟩
    have e0 : Env0 P w K mg B callerA [] s H := ⟨rfl, M, fun b o e => of_hidT e, Nat.le_of_eq (hidT_size _ _), trivial, fun b hb => absurd (show b ∈ ([] : List Addr) from hb) List.not_mem_nil, hok, .of_eq gens⟩
    refine codeAny_mono (F B KB (space gl) s H (.ref a) (.ref a) _ e0 (bind s (.ref a)) rfl (hs H only seq)) fun r s' out => ?_
    cases r with
    | error e => exact False.elim out
    | ok fl =>
      cases fl with
      | next => exact False.elim out
      | brk => exact False.elim out
      | cont => exact False.elim out
      | ret u =>
        obtain ⟨v, H', os, bare, un, hok', rv, q⟩ := out
        obtain rfl : v = .bl true := q
        obtain rfl : u = Value.bool true := rv
        refine ⟨rfl, OldK.of_keep fun b o e => ?_, os, bare⟩
        cases q : H b with
        | none => exact un.keep b o e q (fun z => absurd (show b ∈ ([] : List Addr) from z) List.not_mem_nil) List.not_mem_nil
        | some _ =>
          rcases only b with z | ⟨o2, xs, z⟩
          · rw [q] at z
            cases z
          · obtain ⟨g1, _⟩ := hok b _ z
            obtain ⟨g2, _⟩ := hok' b _ (un.frzs b o2 _ z)
            rw [e] at g1
            cases g1
            exact g2
  cases lk : K.lookup a with
  | some o =>
    have e := KX a o lk
    rw [ha] at e
    cases e
    exact main (fun _ => none) (fun _ => .inl rfl) (.inr ⟨_, vs.toArray, _, lk, rfl, rfl, rfl, by rw [List.size_toArray, count]; exact short, by simpa using rel⟩) (fun b u z => nomatch (show (none : Option HO) = some u from z)) (fun b z => absurd rfl z) fun z => absurd rfl z
  | none =>
    let H1 : Hp := fun b => if b = a then some (.frz ob (.lst (ns.map V.int))) else none
    have atA : H1 a = some (.frz ob (.lst (ns.map V.int))) := if_pos rfl
    have offA : ∀ {b : Addr}, b ≠ a → H1 b = none := fun hb => if_neg hb
    refine main H1 (fun b => ?_) (.inl (.inr ⟨ob, atA⟩)) (fun b u z => ?_) (fun b z => ?_) fun _ => lk
    · by_cases hb : b = a
      · exact .inr ⟨_, _, by rw [hb]; exact atA⟩
      · exact .inl (offA hb)
    · by_cases hb : b = a
      · subst hb
        cases atA.symm.trans z
        exact ⟨ha, by rw [List.length_map]; exact short, vs, _, rel, ha⟩
      · exact nomatch (offA hb).symm.trans z
    · by_cases hb : b = a
      · exact hb
      · exact absurd (offA hb) z
theorem walk_law {l : PySem.W.OpenLaw} {n : Nat} {q : Program} {loose : List Str} {XP : (Str → Option Value) → Heap → Prop} {YP : World → Heap → Prop} {d : DefRec} {x : Str} (hn : l.most = some n) (hz : n ≤ sizeLine) (noDfl : d.params.defaults = [])
    (F : ∀ (w : World) (mg : Str → Option Value) (fa : Addr) (h : Heap), YP w h → h.Ns mainGlobals mg → mg d.name = some (.ref fa) → ∃ (K : PySem.W.Frag) (fd : FuncData) (sp : Sp), K.In h ∧ (∀ (s : Shared) (u : Value), BindsTo s fd ⟨[u], []⟩ [(x, u)]) ∧
      (∀ (H : Hp) (a : Addr) (ns : List Int), ns.length ≤ n → Only H → SqL K H a (ns.map V.int) → sp [.ref a] H (fun v _ => v = .bl true) fun _ _ _ => False) ∧
      ∀ base : Heap, K.In base → base.Ns mainGlobals mg → LawOk l.prog w K mg base fa fd x sp) :
    PySem.W.WalkO q loose XP YP l.row.toRowW d [] (fun f vs => PySem.call f vs) := by
  refine Att.attach_call hn noDfl fun w s₀ s₁ mg mb fa o pm cd doc a vs ns G Y ho hd hcd hmg hobj hints short gens => ?_
  obtain ⟨K, fd, sp, KX, bind, hs, hF⟩ := F w mg fa _ Y G.T.g hmg
  exact law_run KX G.T.g G.T.b G.T.builtins G.T.nolimit gens hobj hints (Nat.le_trans short hz) hF bind fun H only seq => hs H a ns short only seq
end V1

set_option maxHeartbeats 0
namespace K00
open PySem PySem.Spec PyProof.Rows L2 V1
def top (i : Nat) : Stmt := PySem.Challenge.pw_turnedtalk_k00_errors_keep_what_is_passe.main.body.getD i (.Pass ⟨0, 0, 0, 0⟩)
abbrev sBadHouse__init__ : Stmt := inClass (top 2) 0
def dBadHouse__init__ : He.DefD := ⟨("BadHouse", some "__init__"), "__init__", "BadHouse.__init__", defArgs sBadHouse__init__, defBody sBadHouse__init__, defScope sBadHouse__init__, [], []⟩
abbrev sBadTable__init__ : Stmt := inClass (top 3) 0
def dBadTable__init__ : He.DefD := ⟨("BadTable", some "__init__"), "__init__", "BadTable.__init__", defArgs sBadTable__init__, defBody sBadTable__init__, defScope sBadTable__init__, [], []⟩
abbrev sBadText__init__ : Stmt := inClass (top 4) 0
def dBadText__init__ : He.DefD := ⟨("BadText", some "__init__"), "__init__", "BadText.__init__", defArgs sBadText__init__, defBody sBadText__init__, defScope sBadText__init__, [], []⟩
abbrev sBadSchedule__init__ : Stmt := inClass (top 5) 0
def dBadSchedule__init__ : He.DefD := ⟨("BadSchedule", some "__init__"), "__init__", "BadSchedule.__init__", defArgs sBadSchedule__init__, defBody sBadSchedule__init__, defScope sBadSchedule__init__, [], []⟩
abbrev sBadFaults__init__ : Stmt := inClass (top 6) 0
def dBadFaults__init__ : He.DefD := ⟨("BadFaults", some "__init__"), "__init__", "BadFaults.__init__", defArgs sBadFaults__init__, defBody sBadFaults__init__, defScope sBadFaults__init__, [], []⟩
abbrev sBadLetter__init__ : Stmt := inClass (top 7) 0
def dBadLetter__init__ : He.DefD := ⟨("BadLetter", some "__init__"), "__init__", "BadLetter.__init__", defArgs sBadLetter__init__, defBody sBadLetter__init__, defScope sBadLetter__init__, [], []⟩
abbrev sBadEar__init__ : Stmt := inClass (top 8) 0
def dBadEar__init__ : He.DefD := ⟨("BadEar", some "__init__"), "__init__", "BadEar.__init__", defArgs sBadEar__init__, defBody sBadEar__init__, defScope sBadEar__init__, [], []⟩
abbrev sBadThing__init__ : Stmt := inClass (top 9) 0
def dBadThing__init__ : He.DefD := ⟨("BadThing", some "__init__"), "__init__", "BadThing.__init__", defArgs sBadThing__init__, defBody sBadThing__init__, defScope sBadThing__init__, [], []⟩
abbrev sNoName__init__ : Stmt := inClass (top 10) 0
def dNoName__init__ : He.DefD := ⟨("NoName", some "__init__"), "__init__", "NoName.__init__", defArgs sNoName__init__, defBody sNoName__init__, defScope sNoName__init__, [], []⟩
abbrev sTooMany__init__ : Stmt := inClass (top 11) 0
def dTooMany__init__ : He.DefD := ⟨("TooMany", some "__init__"), "__init__", "TooMany.__init__", defArgs sTooMany__init__, defBody sTooMany__init__, defScope sTooMany__init__, [], []⟩
abbrev s_law_hand : Stmt := top 39
def d_law_hand : He.DefD := ⟨("_law_hand", none), "_law_hand", "_law_hand", defArgs s_law_hand, defBody s_law_hand, defScope s_law_hand, [], []⟩
abbrev s_law_draw : Stmt := top 40
def d_law_draw : He.DefD := ⟨("_law_draw", none), "_law_draw", "_law_draw", defArgs s_law_draw, defBody s_law_draw, defScope s_law_draw, [], []⟩
abbrev s_law_pick : Stmt := top 41
def d_law_pick : He.DefD := ⟨("_law_pick", none), "_law_pick", "_law_pick", defArgs s_law_pick, defBody s_law_pick, defScope s_law_pick, [], []⟩
abbrev s_law_odd : Stmt := top 42
def d_law_odd : He.DefD := ⟨("_law_odd", none), "_law_odd", "_law_odd", defArgs s_law_odd, defBody s_law_odd, defScope s_law_odd, [], []⟩
abbrev s_law_thing : Stmt := top 43
def d_law_thing : He.DefD := ⟨("_law_thing", none), "_law_thing", "_law_thing", defArgs s_law_thing, defBody s_law_thing, defScope s_law_thing, [], []⟩
abbrev s_law_fielded : Stmt := top 44
def d_law_fielded : He.DefD := ⟨("_law_fielded", none), "_law_fielded", "_law_fielded", defArgs s_law_fielded, defBody s_law_fielded, defScope s_law_fielded, [], []⟩
abbrev s_law_bare : Stmt := top 45
def d_law_bare : He.DefD := ⟨("_law_bare", none), "_law_bare", "_law_bare", defArgs s_law_bare, defBody s_law_bare, defScope s_law_bare, [], []⟩
abbrev s_law_marks : Stmt := top 46
def d_law_marks : He.DefD := ⟨("_law_marks", none), "_law_marks", "_law_marks", defArgs s_law_marks, defBody s_law_marks, defScope s_law_marks, [], []⟩
abbrev s_law_is_alien : Stmt := top 47
def d_law_is_alien : He.DefD := ⟨("_law_is_alien", none), "_law_is_alien", "_law_is_alien", defArgs s_law_is_alien, defBody s_law_is_alien, defScope s_law_is_alien, [], []⟩
abbrev s_law_fields : Stmt := top 48
def d_law_fields : He.DefD := ⟨("_law_fields", none), "_law_fields", "_law_fields", defArgs s_law_fields, defBody s_law_fields, defScope s_law_fields, [], []⟩
abbrev s_law_raise : Stmt := top 49
def d_law_raise : He.DefD := ⟨("_law_raise", none), "_law_raise", "_law_raise", defArgs s_law_raise, defBody s_law_raise, defScope s_law_raise, [], []⟩
abbrev s_law_caught : Stmt := top 50
def d_law_caught : He.DefD := ⟨("_law_caught", none), "_law_caught", "_law_caught", defArgs s_law_caught, defBody s_law_caught, defScope s_law_caught, [], []⟩
abbrev s_law_is_based : Stmt := top 51
def d_law_is_based : He.DefD := ⟨("_law_is_based", none), "_law_is_based", "_law_is_based", defArgs s_law_is_based, defBody s_law_is_based, defScope s_law_is_based, [], []⟩
abbrev slaw : Stmt := top 52
def dlaw : He.DefD := ⟨("law", none), "law", "law", defArgs slaw, defBody slaw, defScope slaw, [], []⟩
def fn : List He.DefD := [dBadHouse__init__, dBadTable__init__, dBadText__init__, dBadSchedule__init__, dBadFaults__init__, dBadLetter__init__, dBadEar__init__, dBadThing__init__, dNoName__init__, dTooMany__init__, d_law_hand, d_law_draw, d_law_pick, d_law_odd, d_law_thing, d_law_fielded, d_law_bare, d_law_marks, d_law_is_alien, d_law_fields, d_law_raise, d_law_caught, d_law_is_based, dlaw]

/-- the classes with a field, and its name -/
def fld10 : List (Str × Str) := [("BadHouse", "row"), ("BadTable", "part"), ("BadText", "line"), ("BadSchedule", "part"), ("BadFaults", "part"), ("BadLetter", "letter"), ("BadEar", "letter"), ("BadThing", "place"), ("NoName", "name"), ("TooMany", "most")]
def bare26 : List Str := ["NoRow", "NoOrder", "BadProgram", "NoProgram", "NoNumber", "NoNet", "NoLetters", "NoHouses", "NoHouse", "NoIndex", "NoOther", "NoLetter", "NoState", "NoBar", "NoKind", "NoEar", "NotNow", "NoFaults", "NoTellings", "NoWord", "NoLiars", "NoLine", "NoCut", "NoThing", "NoDisk", "NoBarShown"]
def all36 : List Str := fld10.map (·.1) ++ bare26
def lawN : List Str := ["_law_hand", "_law_draw", "_law_pick", "_law_odd", "_law_thing", "_law_fielded", "_law_bare", "_law_marks", "_law_is_alien", "_law_fields", "_law_raise", "_law_caught", "_law_is_based", "law"]
def freeN : List Str := ["len", "int", "range", "repr", "isinstance", "any", "ValueError", "KeyError", "IndexError", "ArithmeticError"]
def fa : List He.Fa := lawN.map He.Fa.glo ++ (fld10.map (fun p => He.Fa.glo p.1) ++ (bare26.map He.Fa.glo ++ (He.Fa.glo "TalkError" :: (freeN.map He.Fa.free ++
  (fld10.map (fun p => He.Fa.meth p.1 "__init__") ++ (fld10.map (fun p => He.Fa.noat p.1 p.2) ++ (bare26.map He.Fa.exc ++ [He.Fa.exc "TalkError"])))))))
def exB (K : PySem.W.Frag) : Bool :=
  oexB K (He.ga K "TalkError") veB && (all36.all (fun x => oexB K (He.ga K x) (.ref (He.ga K "TalkError") :: veB)) && (decide ((He.ga K "TalkError" :: all36.map (He.ga K)).Nodup) &&
  clsAttrB K))
/-! ### the Hook: names' facts, defs, and one Bool more -/
abbrev AlE : Type := He.AlD × Bool
def obsE (g : Addr → Option Obj) : AlE := (He.obsD fa fn (He.frG g (He.asD g 4)), exB (He.frG g (He.asD g 4)))
def hk : PySem.W.Hook where
  α := AlE
  obs := fun s => obsE s.heap.get?
  val := fun _ => (He.valD fn, true)
  says := fun _ h => ∃ K : PySem.W.Frag, K.In h ∧ He.SaysD fa fn K ∧ exB K = true
  of := fun _ _ e => ⟨_, He.frG_in, congrArg (fun z : AlE => z.1) e, congrArg (fun z : AlE => z.2) e⟩
  keeps := fun _ _ _ ⟨K, hK, c⟩ k => ⟨K, PySem.W.Frag.In.keeps hK k, c⟩
theorem obsE_eq {g : Addr → Option Obj} {s : Shared} (h : ∀ a, g a = s.heap.get? a) : obsE g = hk.obs s := by
  have e : g = s.heap.get? := funext h
  rw [e] <;> rfl
abbrev R : PySem.W.OpenRow := PySem.W.OpenLaw.row PySem.Challenge.rw_turnedtalk_k00_errors_keep_what_is_passe
def ob (s : PySem.W.SharedT) : AlE := obsE (HandSHeadRun.getT s)
theorem ob_eq (s : PySem.W.SharedT) : ob s = hk.obs s.abs := obsE_eq (HandSHeadRun.getT_eq s)
def nm0 : List PySem.Str := ["TalkError", "BadHouse", "BadTable", "BadText", "BadSchedule", "BadFaults", "BadLetter", "BadEar", "BadThing", "NoName", "TooMany", "NoRow", "NoOrder", "BadProgram", "NoProgram", "NoNumber", "NoNet", "NoLetters", "NoHouses", "NoHouse", "NoIndex", "NoOther", "NoLetter", "NoState", "NoBar"]
def nm1 : List PySem.Str := ["NoKind", "NoEar", "NotNow", "NoFaults", "NoTellings", "NoWord", "NoLiars", "NoLine", "NoCut", "NoThing", "NoDisk", "NoBarShown", "_law_hand", "_law_draw", "_law_pick", "_law_odd", "_law_thing", "_law_fielded", "_law_bare", "_law_marks", "_law_is_alien", "_law_fields", "_law_raise", "_law_caught", "_law_is_based"]
def names : List PySem.Str := nm0 ++ nm1
theorem run (w : World) : HandSHeadRun.RunEq R (PySem.W.view R.prog [52]) hk ob 60000 names w := by
  intro os
  kernel_rfl
end K00

set_option maxHeartbeats 4000000
namespace V1
open PySem PySem.Spec PyProof.Rows L2
/-- the def that the module's name x stands for keeps sp -/
def Has (P : Program) (w : World) (K : PySem.W.Frag) (mg : Str → Option Value) (base : Heap) (CX : CXT) (k : Nat) (x : Str) (ps : List Str) (sp : Sp) : Prop :=
  ∃ fd, FnOk P w K mg base CX k (He.ga K x) fd ps sp ∧ Binds K fd ps [] ∧ PySem.W.keepIn K (.ref (He.ga K x)) = true ∧ mg x = some (.ref (He.ga K x))
theorem pe_has {X : Cx} {CX : CXT} {k : Nat} {x : Str} {ps : List Str} {sp : Sp} {E : XK} {e : Expr} {es : List Expr} {t : TA} {p pos : Pos} (h : Has X.prog X.w X.K X.mg X.base CX k x ps sp) (hr : Room k X.A) (hx : Passes CX X E) (ha : PA X (e :: es) t) (hg : Gl X x := by rfl)
    (hdb : (x == ("__debug__" : Str)) = false := by decide) (he : starEach (e :: es) X.env = (false, eval e X.env) :: starEach es X.env := by rfl) (hpl : (backTo pos (starEach es X.env)).any (·.1) = false := by rfl) :
    PE X (.Call (.Name x p) (e :: es) [] pos) (tCall sp [] E t) := by
  obtain ⟨fd, F, b, kp, g⟩ := h
  exact pe_call F hr hg g kp b .nil hx ha hdb he hpl
theorem pe_has0 {X : Cx} {CX : CXT} {k : Nat} {x : Str} {ps : List Str} {sp : Sp} {E : XK} {p pos : Pos} (h : Has X.prog X.w X.K X.mg X.base CX k x ps sp) (hr : Room k X.A) (hx : Passes CX X E) (hg : Gl X x := by rfl)
    (hdb : (x == ("__debug__" : Str)) = false := by decide) : PE X (.Call (.Name x p) [] [] pos) (tCall sp [] E tNil) := by
  obtain ⟨fd, F, b, kp, g⟩ := h
  exact pe_call0 F hr hg g kp b .nil hx hdb
theorem delH_upd {H : Hp} {a : Addr} {o : HO} : delH (upd H a o) a = delH H a := by
  funext b
  by_cases e : b = a
  · rw [e, delH_same, delH_same]
  · rw [delH_ne e, delH_ne e, upd_ne e]
theorem delH_updN {H : Hp} {a p : Addr} {o : HO} (h : p ≠ a) : delH (upd H p o) a = upd (delH H a) p o := by
  funext b
  by_cases e : b = a
  · rw [e, delH_same, upd_ne (Ne.symm h), delH_same]
  · rw [delH_ne e]
    by_cases z : b = p
    · rw [z, upd_same, upd_same]
    · rw [upd_ne z, upd_ne z, delH_ne e]
theorem same_new {H : Hp} {p : Addr} {o : HO} (h : H p = none) : Same H (upd H p o) := fun b x e => by
  rw [upd_ne (ne_of_none e h)]
  exact e
theorem same_delH {H : Hp} {a : Addr} : Same (delH H a) H := fun b o e => by
  by_cases z : b = a
  · rw [z, delH_same] at e
    cases e
  · rw [delH_ne z] at e
    exact e
theorem same_del {H H' : Hp} {a : Addr} (h : Same H H') : Same (delH H a) (delH H' a) := fun b o e => by
  by_cases z : b = a
  · rw [z, delH_same] at e
    cases e
  · rw [delH_ne z] at e ⊢
    exact h b o e
end V1
namespace K00
open PySem PySem.Spec PyProof.Rows L2 V1
open Evl (pss_cut tCut sq_of st_of)
structure Tx (K : PySem.W.Frag) (mg : Str → Option Value) : Prop where
  c : He.SaysD fa fn K
  ex : exB K = true
  h : ∃ h : Heap, K.In h ∧ h.Ns mainGlobals mg
section
variable {K : PySem.W.Frag} {mg : Str → Option Value}
theorem Tx.glo (T : Tx K mg) (i : Nat) {x : Str} (e : fa[i]? = some (.glo x)) : mg x = some (.ref (He.ga K x)) := by
  obtain ⟨h, X, G⟩ := T.h
  exact He.glo_ok X G (T.c.fact i e)
theorem Tx.free (T : Tx K mg) (i : Nat) {x : Str} (e : fa[i]? = some (.free x)) : mg x = none := by
  obtain ⟨h, X, G⟩ := T.h
  exact He.free_ok X G (T.c.fact i e)
end
/-! ### the hand of numbers -/
/-- at a: the hand: its cells' list, the four numbers -/
structure HandAt (H : Hp) (a : Addr) : Prop where
  ex : ∃ (c : Addr) (cs : List Int) (i1 i2 i3 i4 : Int), H a = some (.lst [.ref c, .int i1, .int i2, .int i3, .int i4]) ∧ (delH H a) c = some (.lst (cs.map V.int)) ∧ 0 ≤ i1 ∧ 0 ≤ i2
theorem HandAt.new {H H' : Hp} {a : Addr} (h : HandAt H a) (e : H' a = H a) (s : Same (delH H a) (delH H' a)) : HandAt H' a := by
  obtain ⟨c, cs, i1, i2, i3, i4, h1, h2, h3⟩ := h.ex
  exact ⟨c, cs, i1, i2, i3, i4, e.trans h1, s _ _ h2, h3⟩
def spHand (K : PySem.W.Frag) : Sp := fun vs H Q _ => ∃ (a : Addr) (ns : List Int), vs = [.ref a] ∧ SqL K H a (ns.map V.int) ∧ ns.length ≤ 63 ∧ ∀ (H' : Hp) (p : Addr), Same H H' → H p = none → HandAt H' p → Q (.ref p) H'
def spDraw : Sp := fun vs H Q _ => ∃ (a : Addr) (m : Int), vs = [.ref a, .int m] ∧ HandAt H a ∧ 0 < m ∧ m < 1000000000 ∧
  ∀ (H' : Hp) (r : Int), HandAt H' a → delH H' a = delH H a → 0 ≤ r → r < m → Q (.int r) H'
theorem scHand : FnScope ["script", "cell"] ["script"] (defScope s_law_hand) := ⟨rfl, rfl, rfl, by decide +kernel, rfl, by decide +kernel, by decide +kernel⟩
theorem scDraw : FnScope ["hand", "many", "cell", "digit", "number"] ["hand", "many"] (defScope s_law_draw) := ⟨rfl, rfl, rfl, by decide +kernel, rfl, by decide +kernel, by decide +kernel⟩
theorem rest_in (z : Int) {m : Int} (h : 0 < m) : 0 ≤ z % m ∧ z % m < m := ⟨Int.emod_nonneg _ (by omega), Int.emod_lt_of_pos _ h⟩
theorem ix0 {K : PySem.W.Frag} {σ : L2.St} {H : Hp} {Q : VK} {k : Nat} {a : Addr} {xs : List V} {n : Int} {v : V} (h0 : σ[k]? = some (some (.ref a))) (hH : H a = some (.lst xs)) (hv : atI xs n = some v) (q : Q v H) : tOp (rIxL K) (tVar k) (tC (.int n)) σ H Q :=
  ⟨_, h0, a, xs, n, v, rfl, rfl, sq_of hH, hv, q⟩
section
variable {P : Program} {w : World} {K : PySem.W.Frag} {mg : Str → Option Value} {base : Heap}
theorem ok_draw (T : Tx K mg) : Has P w K mg base CX0 1 "_law_draw" ["hand", "many"] spDraw := by
  obtain ⟨fd, F⟩ := T.c.def_ 11 (d := d_law_draw) rfl
  have ml : mg "len" = none := T.free 51 rfl
  have mi : mg "int" = none := T.free 52 rfl
  refine ⟨fd, F.ok scDraw (fun vs H Q E h => ?_) (fun cdv A outer s H vs Q E hr h => ?_), FunD.bindsN F fun _ _ _ _ _ _ us hl => match us, hl with | [_, _], _ => rfl, F.kp, T.glo 1 rfl⟩
  · obtain ⟨a, m, rfl, _⟩ := h
    rfl
  · refine ⟨_, PSs.nox (pss_cut (ps_if (PW.pt (pw_and (pt_cmpR op_eq (pe_ix ix_list (pv 0) pe_int (fun _ _ => rfl)) pe_int (nomark _)) (pw_and1 (pt_cmpR op_lt (pe_ix ix_list (pv 0) pe_int (fun _ _ => rfl)) (pe_callB call_len (by rfl) ml PySem.boot_len (pa_cons (pe_ix ix_list (pv 0) pe_int (fun _ _ => rfl)) pa_nil)) (nomark _)))))
 (pss_cons (ps_set (i := 2) scDraw.nd rfl (Or.inl rfl) (pe_ix ix_list (pe_ix ix_list (pv 0) pe_int (fun _ _ => rfl)) (pe_ix ix_list (pv 0) pe_int (fun _ _ => rfl)) (fun _ _ => rfl)))
 (pss_cons (ps_asg (pe_op op_add (pe_ix ix_list (pv 0) pe_int (fun _ _ => rfl)) pe_int) (pg_sub (pv 0) pe_int set_list))
 (pss_cons (ps_asg (pe_op op_mod (pe_callTy call_int1 (by rfl) mi (by decide +kernel) (pa_cons (pe_op op_add (pe_op op_add (pe_op op_mul (pe_ix ix_list (pv 0) pe_int (fun _ _ => rfl)) pe_int) (pe_op op_mul (pv 2) pe_int)) pe_int) pa_nil)) pe_int) (pg_sub (pv 0) pe_int set_list))
 (pss_one (ps_if (pt_cmpR op_ge (pv 2) (pe_op op_pow pe_int pe_int) (nomark _))
 (pss_one (ps_asg (pv 2) (pg_sub (pv 0) pe_int set_list)))
 pss_nil)))))
 pss_nil)
 (pss_cons (ps_if (pt_cmpR op_gt (pe_ix ix_list (pv 0) pe_int (fun _ _ => rfl)) pe_int (nomark _))
 (pss_cons (ps_set (i := 3) scDraw.nd rfl (Or.inl rfl) (pe_op op_mod (pe_callTy call_int1 (by rfl) mi (by decide +kernel) (pa_cons (pe_ix ix_list (pv 0) pe_int (fun _ _ => rfl)) pa_nil)) (pv 1)))
 (pss_cons (ps_asg (pe_op op_fdiv (pe_ix ix_list (pv 0) pe_int (fun _ _ => rfl)) (pv 1)) (pg_sub (pv 0) pe_int set_list))
 (pss_one (ps_ret (pv 3)))))
 pss_nil)
 (pss_cons (ps_asg (pe_op op_add (pe_ix ix_list (pv 0) pe_int (fun _ _ => rfl)) pe_int) (pg_sub (pv 0) pe_int set_list))
 (pss_cons (ps_set (i := 4) scDraw.nd rfl (Or.inl rfl) (pe_op op_mod (pe_callTy call_int1 (by rfl) mi (by decide +kernel) (pa_cons (pe_op op_mul (pe_op op_add (pe_ix ix_list (pv 0) pe_int (fun _ _ => rfl)) (pe_op op_mul pe_int (pe_ix ix_list (pv 0) pe_int (fun _ _ => rfl)))) pe_int) pa_nil)) pe_int))
 (pss_cons (ps_set (i := 4) scDraw.nd rfl (Or.inl rfl) (pe_op op_mod (pe_callTy call_int1 (by rfl) mi (by decide +kernel) (pa_cons (pe_op op_mul (pv 4) (pe_op op_add (pe_op op_fdiv (pv 4) pe_int) pe_int)) pa_nil)) pe_int))
 (pss_cons (ps_set (i := 4) scDraw.nd rfl (Or.inl rfl) (pe_op op_mod (pe_callTy call_int1 (by rfl) mi (by decide +kernel) (pa_cons (pe_op op_mul (pv 4) (pe_op op_add (pe_op op_fdiv (pv 4) pe_int) pe_int)) pa_nil)) pe_int))
 (pss_one (ps_ret (pe_op op_mod (pe_callTy call_int1 (by rfl) mi (by decide +kernel) (pa_cons (pe_op op_fdiv (pv 4) pe_int) pa_nil)) (pv 1)))))))))), ?_⟩
    obtain ⟨a, m, rfl, hd, m0, m1, hQ⟩ := h
    obtain ⟨c, cs, i1, i2, i3, i4, h1, h2, h3, h4⟩ := hd.ex
    refine ⟨fun σ H1 => ∃ (j1 j2 j3 j4 : Int) (v2 : Option V), σ = [some (.ref a), some (.int m), v2, none, none] ∧ H1 a = some (.lst [.ref c, .int j1, .int j2, .int j3, .int j4]) ∧ delH H1 a = delH H a ∧ 0 ≤ j1 ∧ 0 ≤ j2, ?_, ?_⟩
    · -- a new cell is taken
      have hc : H c = some (.lst (cs.map V.int)) := same_delH _ _ h2
      have nca : c ≠ a := fun z => by
        rw [z, delH_same] at h2
        cases h2
      refine ix0 rfl h1 rfl ⟨rfl, _, rfl, ?_⟩
      refine ite2 (fun e2 => ?_) (fun _ => ?_)
      · refine ix0 rfl h1 rfl (ix0 rfl h1 rfl ⟨_, _, rfl, .inl ⟨_, sq_of hc, rfl⟩, _, _, rfl, rfl, _, rfl, ?_⟩)
        refine ite2 (fun e1 => ?_) (fun _ => ?_)
        · have e1' := of_decide_eq_true e1
          rw [List.length_map] at e1'
          obtain ⟨j, rfl⟩ := Int.eq_ofNat_of_zero_le h3
          have hj : j < cs.length := by omega
          have at_ : atI (cs.map V.int) ((j : Nat) : Int) = some (.int cs[j]) := atI_nat (by rw [List.getElem?_map, List.getElem?_eq_getElem hj]; rfl)
          refine ix0 rfl h1 rfl (ix0 rfl h1 rfl ⟨c, _, _, _, rfl, rfl, sq_of hc, at_, ?_⟩)
          refine ix0 rfl h1 rfl ⟨_, _, rfl, rfl, _, rfl, a, _, _, 1, rfl, rfl, h1, rfl, ?_⟩
          refine ix0 rfl upd_same rfl ⟨_, _, rfl, rfl, .inr ⟨by decide, by decide⟩, _, rfl, _, _, rfl, rfl, .inr ⟨by decide, by decide⟩, _, _, rfl, rfl, _, _, rfl, rfl, .inl ⟨_, rfl, _, _, rfl, rfl, (by show (0 : Int) < 2147483629; decide), _, rfl, a, _, _, 3, rfl, rfl, upd_same, rfl, ?_⟩⟩
          rw [upd_upd]
          refine ⟨_, rfl, _, _, rfl, rfl, ⟨by decide, by decide, by decide⟩, _, _, rfl, rfl, _, rfl, ?_⟩
          refine ite2 (fun big => ?_) (fun _ => ?_)
          · refine ⟨_, rfl, _, rfl, a, _, _, 2, rfl, rfl, upd_same, rfl, ?_⟩
            rw [upd_upd]
            refine ⟨_, _, _, _, _, rfl, upd_same, by rw [delH_upd], by omega, ?_⟩
            have b := of_decide_eq_true big
            exact Int.le_trans (by decide) b
          · refine ⟨_, _, _, _, _, rfl, upd_same, by rw [delH_upd], by omega, h4⟩
        · exact ⟨_, _, _, _, _, rfl, h1, rfl, h3, h4⟩
      · exact ⟨_, _, _, _, _, rfl, h1, rfl, h3, h4⟩
    · rintro σ H1 ⟨j1, j2, j3, j4, v2, rfl, g1, g2, g3, g4⟩
      refine ix0 rfl g1 rfl ⟨_, _, rfl, rfl, _, rfl, ?_⟩
      refine ite2 (fun e => ?_) (fun e => ?_)
      · refine ix0 rfl g1 rfl (.inl ⟨_, rfl, _, rfl, _, _, rfl, rfl, m0, ?_⟩)
        refine ix0 rfl g1 rfl ⟨_, rfl, _, _, rfl, rfl, ⟨m0, by omega⟩, _, rfl, a, _, _, 2, rfl, rfl, g1, rfl, _, rfl, ?_⟩
        refine hQ _ _ ⟨c, cs, j1, j2 / m, j3, j4, upd_same, ?_, g3, Int.ediv_nonneg g4 (by omega)⟩ (by rw [delH_upd, g2]) (Int.emod_nonneg _ (by omega)) (Int.emod_lt_of_pos _ m0)
        rw [delH_upd, g2]
        exact h2
      · refine ix0 rfl g1 rfl ⟨_, _, rfl, rfl, _, rfl, a, _, _, 4, rfl, rfl, g1, rfl, ?_⟩
        refine ix0 rfl upd_same rfl (ix0 rfl upd_same rfl ⟨_, _, rfl, rfl, .inl ⟨by decide, by decide⟩, _, _, rfl, rfl, _, _, rfl, rfl, .inr ⟨by decide, by decide⟩, .inl ⟨_, rfl, _, _, rfl, rfl, (by show (0 : Int) < 2147483647; decide), ?_⟩⟩)
        have b1 := rest_in ((j3 + 6271 * (j4 + 1)) * 48673) (m := 2147483647) (by decide)
        refine ⟨_, rfl, _, rfl, _, _, rfl, rfl, ⟨by decide, by decide⟩, _, _, rfl, rfl, _, _, rfl, rfl, .inl ⟨by omega, by omega⟩, .inl ⟨_, rfl, _, _, rfl, rfl, (by show (0 : Int) < 2147483647; decide), ?_⟩⟩
        have b2 := fun z : Int => rest_in z (m := 2147483647) (by decide)
        refine ⟨_, rfl, _, rfl, _, _, rfl, rfl, ⟨by decide, by decide⟩, _, _, rfl, rfl, _, _, rfl, rfl, .inl ⟨Int.lt_of_lt_of_le (by decide) (b2 _).1, Int.lt_of_lt_of_le (b2 _).2 (by decide)⟩, .inl ⟨_, rfl, _, _, rfl, rfl, (by show (0 : Int) < 2147483399; decide), ?_⟩⟩
        refine ⟨_, rfl, _, _, rfl, rfl, ⟨by decide, by decide⟩, .inl ⟨_, rfl, _, rfl, _, _, rfl, rfl, m0, ?_⟩⟩
        refine hQ _ _ ⟨c, cs, j1, j2, j3, j4 + 1, upd_same, ?_, g3, g4⟩ (by rw [delH_upd, g2]) (Int.emod_nonneg _ (by omega)) (Int.emod_lt_of_pos _ m0)
        rw [delH_upd, g2]
        exact h2
end
end K00

set_option maxHeartbeats 4000000
namespace V1
open PySem PySem.Spec PyProof.Rows L2
/-- [..], its place told not to be the table of modules -/
def tLstS (t : TA) : TE := fun σ H Q => t σ H fun xs H1 => xs.length ≤ sizeLine ∧ ∀ p, H1 p = none → (p == sysModules) = false → Q (.ref p) (upd H1 p (.lst xs))
theorem pe_lstS {X : Cx} {es : List Expr} {t : TA} {pos : Pos} (h : PA X es t) : PE X (.List es pos) (tLstS t) := by
  constructor
  intro pins s σ H Q I hq
  apply wpAny_List_spliced
  apply thn (h.run pos pins s σ H _ I hq)
  rintro us s1 ⟨xs, H1, J, rv, z, q⟩
  have lenU : us.length ≤ sizeLine := rv.length ▸ z
  refine ⟨lenU, .ref s1.heap.objs.size, _, ?_, rfl, q _ (J.hok.fresh (Nat.le_refl _)) (beq_eq_false_iff_ne.mpr (Nat.ne_of_gt J.big))⟩
  exact J.laid (o := .lst xs) (t' := s1.toks) (fun _ _ e => Heap.get?_push_of_some _ e) (Nat.le_refl _) ⟨z, us, 0, rv, Heap.get?_push_size _ rfl⟩
/-- the hand at a stands -/
def Held (H : Hp) (a : Addr) : Prop := ∃ o, H a = some o
theorem Held.same {H H' : Hp} {a : Addr} (h : Held H a) (s : Same H H') : Held H' a := let ⟨o, e⟩ := h; ⟨o, s _ _ e⟩
theorem Held.off {H H' : Hp} {a p : Addr} {o : HO} (h : Held H a) (n : H p = none) (e : H' p = some o) : (delH H' a) p = some o := by
  obtain ⟨u, hu⟩ := h
  rw [delH_ne (Ne.symm (ne_of_none hu n))]
  exact e
/-- te makes this data beside what stands at a -/
def Mk (te : TE) (σ : L2.St) (a : Addr) (d : PyData) : Prop := ∀ H, Held H a → ∀ Q : VK, (∀ v H', Same H H' → Dq (delH H' a) v d → Q v H') → te σ H Q
def MkA (ta : TA) (σ : L2.St) (a : Addr) (ds : List PyData) : Prop := ∀ H, Held H a → ∀ Q : List V → Hp → Prop, (∀ vs H', Same H H' → DqAll (delH H' a) vs ds → Q vs H') → ta σ H Q
section
variable {σ : L2.St} {a : Addr} {d : PyData} {ds : List PyData} {te : TE} {ta : TA}
theorem mk_non : Mk (tC .non) σ a .none := fun H _ _ k => k _ H (Same.refl H) .non
theorem mk_bl (b : Bool) : Mk (tC (.bl b)) σ a (.bool b) := fun H _ _ k => k _ H (Same.refl H) (.bl b)
theorem mk_int (i : Int) : Mk (tC (.int i)) σ a (.int i) := fun H _ _ k => k _ H (Same.refl H) (.int i)
theorem mk_str (x : Str) : Mk (tC (.str x)) σ a (.str x) := fun H _ _ k => k _ H (Same.refl H) (.str x)
theorem mka_nil : MkA tNil σ a [] := fun H _ _ k => k [] H (Same.refl H) .nil
theorem mka_cons (h : Mk te σ a d) (r : MkA ta σ a ds) : MkA (tCons te ta) σ a (d :: ds) := fun H hh _ k => h H hh _ fun v H1 s1 q1 => r H1 (hh.same s1) _ fun vs H2 s2 q2 => k (v :: vs) H2 (s1.trans s2) (.cons (Dq.same (same_del s2) d v q1) q2)
theorem dqAll_len {H : Hp} : ∀ {vs : List V} {ds : List PyData}, DqAll H vs ds → vs.length = ds.length
  | _, [], .nil => rfl
  | _, _ :: _, .cons _ m => congrArg (· + 1) (dqAll_len m)
theorem mk_tup (r : MkA ta σ a ds) (hz : ds.length ≤ 1000) : Mk (tTup ta) σ a (.tuple ds) := fun H hh _ k => r H hh _ fun vs H1 s1 q1 =>
  ⟨Nat.le_of_lt (small1000 (by rw [dqAll_len q1]; exact hz)), fun p n => k _ _ (s1.trans (same_new n)) (.tup ((hh.same s1).off n upd_same) (DqAll.same (same_del (same_new n)) ds vs q1))⟩
theorem mk_lst (r : MkA ta σ a ds) (hz : ds.length ≤ 1000) : Mk (tLstS ta) σ a (.list ds) := fun H hh _ k => r H hh _ fun vs H1 s1 q1 =>
  ⟨Nat.le_of_lt (small1000 (by rw [dqAll_len q1]; exact hz)), fun p n low => k _ _ (s1.trans (same_new n)) (.lst ((hh.same s1).off n upd_same) low (DqAll.same (same_del (same_new n)) ds vs q1))⟩
theorem mk_dict0 : Mk tDNewK σ a (.dict []) := fun H hh _ k p n => k _ _ (same_new n) (.dct (hh.off n upd_same) .nil)
/-- a written dict of one text key and an int -/
theorem mk_dict1 (x : Str) (i : Int) : Mk (tDisp [(tC (.str x), tC (.int i))]) σ a (.dict [(.str x, .int i)]) := fun H hh _ k p n =>
  ⟨upd_same, [(.inr x, .int i)], rfl, (by show 1 ≤ 15; decide), by
    rw [upd_upd]
    exact k _ _ (same_new n) (.dct (kvs := [(.inr x, .int i)]) (hh.off n upd_same) (.cons (k := .inr x) (.int i) .nil))⟩
theorem DqAll.get {H : Hp} : ∀ {vs : List V} {ds : List PyData} {j : Nat} {d : PyData}, DqAll H vs ds → ds[j]? = some d → ∃ v, vs[j]? = some v ∧ Dq H v d
  | _, _ :: _, 0, _, .cons one _, e => ⟨_, rfl, by
    obtain rfl := Option.some.inj e
    exact one⟩
  | _, _ :: _, j + 1, _, .cons _ more, e => DqAll.get (j := j) more e
/-- an item of a written list of data, its place from an int -/
theorem mk_pick {K : PySem.W.Frag} {ti : TE} {H : Hp} {Q : VK} {j : Nat} (r : MkA ta σ a ds) (hz : ds.length ≤ 1000) (hh : Held H a) (hi : ∀ H1, Same H H1 → ∀ Q : VK, Q (.int j) H1 → ti σ H1 Q) (hj : j < ds.length)
    (k : ∀ v H', Same H H' → Dq (delH H' a) v ds[j] → Q v H') : tOp (rIxL K) (tLstS ta) ti σ H Q := r H hh _ fun vs H1 s1 q1 =>
  ⟨Nat.le_of_lt (small1000 (by rw [dqAll_len q1]; exact hz)), fun p n _ => by
    obtain ⟨v, hv, dv⟩ := DqAll.get q1 (List.getElem?_eq_getElem hj)
    have s2 := s1.trans (same_new (o := .lst vs) n)
    exact hi _ s2 _ ⟨p, vs, j, v, rfl, rfl, .inl (.inl upd_same), atI_nat hv, k v _ s2 (Dq.same (same_del (same_new n)) _ v dv)⟩⟩
end
structure Good (d : PyData) (b n : Nat) : Prop where
  sh : d.showable = true
  dp : d.depth ≤ b
  ln : d.shown.length ≤ n
theorem Good.mono {d : PyData} {b n b' n' : Nat} (h : Good d b n) (h1 : b ≤ b') (h2 : n ≤ n') : Good d b' n' := ⟨h.sh, Nat.le_trans h.dp h1, Nat.le_trans h.ln h2⟩
theorem good_int {i : Int} (h0 : 0 ≤ i) (h : i < 10 ^ 6) : Good (.int i) 0 6 := by
  refine ⟨?_, Nat.le_refl _, toString_length_le h0 (by decide) h⟩
  have z : i.natAbs < 2 ^ 20 := by omega
  have e : i.natAbs.log2 < 1920 := by
    by_cases hz : i.natAbs = 0
    · rw [hz]
      decide
    · exact Nat.lt_trans ((Nat.log2_lt hz).mpr z) (by decide)
  simpa [PyData.showable] using e
theorem good_list2 {d e : PyData} {b c n m : Nat} (hd : Good d b n) (he : Good e c m) : Good (.list [d, e]) (max b c + 1) (n + m + 4) := by
  refine ⟨?_, ?_, ?_⟩
  · simp only [PyData.showable, PyData.showableAll, hd.sh, he.sh, Bool.and_self]
  · simp only [PyData.depth, PyData.depthAll]
    have h1 := hd.dp
    have h2 := he.dp
    omega
  · have q : (PyData.list [d, e]).shown = ((((Str.ofString "[" ++ Str.ofString "") ++ d.shown) ++ Str.ofString ", ") ++ e.shown) ++ Str.ofString "]" := by
      simp only [PyData.shown, PyData.shownAll]
      rfl
    rw [q]
    simp only [strLen_append]
    have h1 := hd.ln
    have h2 := he.ln
    have k1 : (Str.ofString "[").length = 1 := by decide
    have k2 : (Str.ofString "").length = 0 := by decide
    have k3 : (Str.ofString ", ").length = 2 := by decide
    have k4 : (Str.ofString "]").length = 1 := by decide
    omega
theorem good_tup2 {d e : PyData} {b c n m : Nat} (hd : Good d b n) (he : Good e c m) : Good (.tuple [d, e]) (max b c + 1) (n + m + 4) := by
  refine ⟨?_, ?_, ?_⟩
  · simp only [PyData.showable, PyData.showableAll, hd.sh, he.sh, Bool.and_self]
  · simp only [PyData.depth, PyData.depthAll]
    have h1 := hd.dp
    have h2 := he.dp
    omega
  · have q : (PyData.tuple [d, e]).shown = (Str.ofString "(" ++ Str.join ", " [d.shown, e.shown]) ++ Str.ofString ")" := by
      simp only [PyData.shown, PyData.shownAll]
      rfl
    rw [q]
    simp only [strLen_append]
    have h1 := hd.ln
    have h2 := he.ln
    have j := join_length_add [d.shown, e.shown] (by simp)
    have p : piled [d.shown, e.shown] = d.shown.length + 2 + (e.shown.length + 2) := by simp [piled]
    have k1 : (Str.ofString "(").length = 1 := by decide
    have k2 : (Str.ofString ")").length = 1 := by decide
    omega
end V1
namespace K00
open PySem PySem.Spec PyProof.Rows L2 V1
open Evl (pss_cut tCut sq_of st_of)
theorem HandAt.same {H H' : Hp} {a : Addr} (h : HandAt H a) (s : Same H H') : HandAt H' a := by
  obtain ⟨c, cs, i1, i2, i3, i4, h1, _⟩ := id h.ex
  exact h.new ((s _ _ h1).trans h1.symm) (same_del s)
theorem HandAt.held {H : Hp} {a : Addr} (h : HandAt H a) : Held H a := by
  obtain ⟨c, cs, i1, i2, i3, i4, h1, _⟩ := h.ex
  exact ⟨_, h1⟩
def goodB (d : PyData) (b n : Nat) : Bool := d.showable && (decide (d.depth ≤ b) && decide (d.shown.length ≤ n))
theorem goodB_of {d : PyData} {b n : Nat} (h : goodB d b n = true) : Good d b n := by
  unfold goodB at h
  simp only [Bool.and_eq_true, decide_eq_true_eq] at h
  exact ⟨h.1, h.2.1, h.2.2⟩
theorem good_at {ds : List PyData} {b n j : Nat} (h : ds.all (fun d => goodB d b n) = true) (hj : j < ds.length) : Good ds[j] b n := goodB_of (List.all_eq_true.mp h _ (List.getElem_mem hj))
/-- what is new lies beside the hand -/
theorem off_hand {H H1 H' : Hp} {a p : Addr} {o : HO} (h : HandAt H a) (s : Same H H1) (n : H1 p = none) (e : H' p = some o) : (delH H' a) p = some o := by
  obtain ⟨c, cs, i1, i2, i3, i4, h1, _⟩ := h.ex
  rw [delH_ne (Ne.symm (ne_of_none (s _ _ h1) n))]
  exact e
def spOdd : Sp := fun vs H Q _ => ∃ a : Addr, vs = [.ref a] ∧ HandAt H a ∧
  ∀ (H' : Hp) (v : V) (d : PyData), HandAt H' a → Same (delH H a) (delH H' a) → Dq (delH H' a) v d → Good d 3 30 → Q v H'
def spThing : Sp := fun vs H Q _ => ∃ a : Addr, vs = [.ref a] ∧ HandAt H a ∧
  ∀ (H' : Hp) (v : V) (d : PyData), HandAt H' a → Same (delH H a) (delH H' a) → Dq (delH H' a) v d → Good d 40 1000 → Q v H'
theorem scOdd : FnScope ["hand", "turn"] ["hand"] (defScope s_law_odd) := ⟨rfl, rfl, rfl, by decide +kernel, rfl, by decide +kernel, by decide +kernel⟩
theorem scThing : FnScope ["hand", "thing", "k"] ["hand"] (defScope s_law_thing) := ⟨rfl, rfl, rfl, by decide +kernel, rfl, by decide +kernel, by decide +kernel⟩
theorem cut63 (ns : List Int) : cutV (ns.map V.int) none (some 63) = (ns.take 63).map V.int := by
  unfold cutV
  rw [show HT.sIx (ns.map V.int).length (ns.map V.int).length (some 63) = min 63 (ns.map V.int).length from HT.sIx_nat _ _ 63, HT.sIx_none]
  simp [List.map_take, Nat.min_comm]
section
variable {P : Program} {w : World} {K : PySem.W.Frag} {mg : Str → Option Value} {base : Heap}
theorem ok_hand (T : Tx K mg) : Has P w K mg base CX0 1 "_law_hand" ["script"] (spHand K) := by
  obtain ⟨fd, F⟩ := T.c.def_ 10 (d := d_law_hand) rfl
  have mi : mg "int" = none := T.free 52 rfl
  refine ⟨fd, F.ok scHand (fun vs H Q E h => ?_) (fun cdv A outer s H vs Q E hr h => ?_), FunD.bindsN F fun _ _ _ _ _ _ us hl => match us, hl with | [_], _ => rfl, F.kp, T.glo 0 rfl⟩
  · obtain ⟨a, ns, rfl, _⟩ := h
    rfl
  · refine ⟨_, PSs.nox (pss_one (ps_ret (pe_lst (pa_cons (pe_lc (own := [("cell", 1)]) (g := gName 1) (tt := tYes) (by rfl) scHand.nd (pi_list (pe_slice sl_list (pv 0) po_none (po_some pe_int)))
      (blkOk_by (own := [("cell", 1)]) (N := ["script", "cell"]) (sc := defScope s_law_hand) (by decide +kernel)) (fun _ _ _ _ _ => pg_name (i := 1) scHand.nd rfl (Or.inl rfl)) (fun _ _ _ _ _ => pts_nil)
      (fun _ _ _ _ _ => pe_callTy call_int1 (by rfl) mi (by decide +kernel) (pa_cons (pv 1) pa_nil))) (pa_cons pe_int (pa_cons pe_int (pa_cons pe_int (pa_cons pe_int pa_nil)))))))), ?_⟩
    obtain ⟨a, ns, rfl, hS, hl, hQ⟩ := h
    refine ⟨_, rfl, 63, rfl, a, _, rfl, hS, fun p np => ?_⟩
    rw [cut63]
    have sp := same_new (o := .lst ((ns.take 63).map V.int)) np
    refine ⟨p, rfl, ⟨_, sq_of upd_same⟩, fun D nD => lc_list (K := K) (a := p) (xs := (ns.take 63).map V.int) (fun i H' => Same (upd H p (.lst ((ns.take 63).map V.int))) (delH H' D) ∧ H' D = some (.lst (((ns.take 63).take i).map V.int))) ?_ ?_ ?_ ?_⟩
    · refine ⟨fun b o e => ?_, upd_same⟩
      have ne := ne_of_none e nD
      rw [delH_ne ne, upd_ne ne]
      exact e
    · rintro i H' _ ⟨sm, _⟩
      exact sq_of (same_delH _ _ (sm _ _ upd_same))
    · rintro i x H' hx ⟨sm, eD⟩
      rw [List.getElem?_map] at hx
      obtain ⟨z, hz, rfl⟩ := Option.map_eq_some_iff.mp hx
      refine ⟨rfl, ?_⟩
      simp only [tYes, if_true]
      refine ⟨_, rfl, .inl ⟨z, rfl, _, eD, ?_, fun b o e => ?_, ?_⟩⟩
      · rw [List.length_map, List.length_take, List.length_take]
        exact Nat.lt_of_le_of_lt (Nat.le_trans (Nat.min_le_right _ _) (Nat.min_le_left _ _)) (by decide)
      · rw [delH_upd]
        exact sm b o e
      · have tk : ∀ l : List Int, l[i]? = some z → l.take (i + 1) = l.take i ++ [z] := fun l h => by
          rw [List.take_add_one, h]
          rfl
        rw [upd_same, tk _ hz, List.map_append]
        rfl
    · rintro H' ⟨sm, eD⟩
      rw [List.length_map, List.take_length] at eD
      refine ⟨(by show 5 ≤ sizeLine; decide), fun q nq => ?_⟩
      have nqD := ne_of_none eD nq
      refine hQ _ q (fun b o e => ?_) ?_ ⟨D, ns.take 63, 0, 0, 1187, 0, upd_same, ?_, by decide, by decide⟩
      · have e1 := sp b o e
        have e2 := same_delH _ _ (sm b o e1)
        rw [upd_ne (ne_of_none e2 nq)]
        exact e2
      · cases e : H q with
        | none => rfl
        | some o =>
          rw [same_delH _ _ (sm q o (sp q o e))] at nq
          cases nq
      · rw [delH_ne nqD, upd_ne nqD]
        exact eD
theorem ok_odd (T : Tx K mg) : Has P w K mg base CX0 2 "_law_odd" ["hand"] spOdd := by
  obtain ⟨fd, F⟩ := T.c.def_ 13 (d := d_law_odd) rfl
  have hDraw := ok_draw (P := P) (w := w) (base := base) T
  refine ⟨fd, F.ok scOdd (fun vs H Q E h => ?_) (fun cdv A outer s H vs Q E hr h => ?_), FunD.bindsN F fun _ _ _ _ _ _ us hl => match us, hl with | [_], _ => rfl, F.kp, T.glo 3 rfl⟩
  · obtain ⟨a, rfl, _⟩ := h
    rfl
  · refine ⟨_, PSs.nox (pss_cons (ps_set (i := 1) scOdd.nd rfl (Or.inl rfl) (pe_has hDraw (hr.mono (by decide)) pass0 (pa_cons (pv 0) (pa_cons pe_int pa_nil))))
 (pss_cons (ps_if (pt_cmpR op_lt (pv 1) pe_int (nomark _))
 (pss_one (ps_ret (pe_ix ix_list (pe_lstS (pa_cons pe_non (pa_cons pe_bl (pa_cons pe_bl (pa_cons pe_str (pa_cons pe_str (pa_cons pe_str (pa_cons pe_str pa_nil)))))))) (pv 1) (fun _ _ => rfl))))
 pss_nil)
 (pss_cons (ps_if (pt_cmpR op_lt (pv 1) pe_int (nomark _))
 (pss_one (ps_ret (pe_ix ix_list (pe_lstS (pa_cons (pe_tup pa_nil) (pa_cons (pe_lstS pa_nil) (pa_cons pe_dnewK (pa_cons (pe_tup (pa_cons pe_int pa_nil)) (pa_cons (pe_lstS (pa_cons pe_int (pa_cons pe_int pa_nil))) (pa_cons (pe_tup (pa_cons (pe_tup pa_nil) pa_nil)) (pa_cons (pe_disp (pps_cons pe_str pe_int pps_nil) (by rfl) (by rfl) (fun z => by cases z) (by decide)) pa_nil)))))))) (pe_op op_sub (pv 1) pe_int) (fun _ _ => rfl))))
 pss_nil)
 (pss_one (ps_ret (pe_ix ix_list (pe_lstS (pa_cons (pe_un un_neg pe_int) (pa_cons pe_int (pa_cons pe_int (pa_cons (pe_op op_sub (pe_op op_pow pe_int pe_int) pe_int) (pa_cons (pe_tup (pa_cons (pe_tup (pa_cons pe_str (pa_cons pe_str pa_nil))) (pa_cons pe_str pa_nil))) (pa_cons (pe_has hDraw (hr.mono (by decide)) pass0 (pa_cons (pv 0) (pa_cons (pe_op op_pow pe_int pe_int) pa_nil))) pa_nil))))))) (pe_op op_sub (pv 1) pe_int) (fun _ _ => rfl))))))), ?_⟩
    obtain ⟨a, rfl, hd, hQ⟩ := h
    refine ⟨_, rfl, a, 20, rfl, hd, by decide, by decide, fun H1 r hd1 e1 r0 r1 => ?_⟩
    refine ⟨_, rfl, _, _, rfl, rfl, _, rfl, ?_⟩
    refine ite2 (fun lt => ?_) (fun ge => ?_)
    · have hj := of_decide_eq_true lt
      obtain ⟨j, rfl⟩ := Int.eq_ofNat_of_zero_le r0
      refine mk_pick (j := j) (mka_cons mk_non (mka_cons (mk_bl true) (mka_cons (mk_bl false) (mka_cons (mk_str "") (mka_cons (mk_str "a") (mka_cons (mk_str "pairs") (mka_cons (mk_str "row 0\n") mka_nil)))))))
        (by decide) hd1.held (fun H2 _ Q q => ⟨_, rfl, q⟩) (show j < 7 by omega) (fun v H2 sm q => ?_)
      exact hQ H2 v _ (hd1.same sm) (e1 ▸ same_del sm) q (good_at (by decide +kernel) _)
    · refine ⟨_, rfl, _, _, rfl, rfl, _, rfl, ?_⟩
      have hge : ¬ r < 7 := fun z => ge (decide_eq_true z)
      refine ite2 (fun lt2 => ?_) (fun ge2 => ?_)
      · have hj := of_decide_eq_true lt2
        obtain ⟨j, hj2⟩ := Int.eq_ofNat_of_zero_le (show 0 ≤ r - 7 by omega)
        refine mk_pick (j := j) (mka_cons (mk_tup mka_nil (by decide)) (mka_cons (mk_lst mka_nil (by decide)) (mka_cons mk_dict0 (mka_cons (mk_tup (mka_cons (mk_int 0) mka_nil) (by decide)) (mka_cons (mk_lst (mka_cons (mk_int 0) (mka_cons (mk_int 0) mka_nil)) (by decide))
          (mka_cons (mk_tup (mka_cons (mk_tup mka_nil (by decide)) mka_nil) (by decide)) (mka_cons (mk_dict1 "a" 1) mka_nil))))))) (by decide) hd1.held (fun H2 _ Q q => ⟨_, rfl, _, _, rfl, rfl, (by show Q (.int (r - 7)) H2; rw [hj2]; exact q)⟩) (show j < 7 by omega) (fun v H2 sm q => ?_)
        exact hQ H2 v _ (hd1.same sm) (e1 ▸ same_del sm) q (good_at (by decide +kernel) _)
      · have hge2 : ¬ r < 14 := fun z => ge2 (decide_eq_true z)
        obtain ⟨j, hj2⟩ := Int.eq_ofNat_of_zero_le (show 0 ≤ r - 14 by omega)
        -- the tuples, the drawn int, the list
        refine ⟨1, rfl, _, _, rfl, rfl, ⟨by decide, by decide, by decide⟩, _, _, rfl, rfl, ?_⟩
        refine mk_tup (a := a) (mka_cons (mk_tup (mka_cons (mk_str "a") (mka_cons (mk_str "b") mka_nil)) (by decide)) (mka_cons (mk_str "c") mka_nil)) (by decide) H1 hd1.held _ fun v2 H2 sm q => ?_
        refine ⟨_, rfl, _, _, rfl, rfl, ⟨by decide, by decide, by decide⟩, a, _, rfl, hd1.same sm, by decide, by decide, fun H3 r3 hd3 e3 r30 r31 => ?_⟩
        refine ⟨(by show 6 ≤ sizeLine; decide), fun p np _ => ?_⟩
        refine ⟨_, rfl, _, _, rfl, rfl, p, _, _, ([.int (-1), .int 0, .int 1, .int (10 ^ 20 - 1), v2, .int r3] : List V)[j]'(show j < 6 by omega), rfl, rfl, sq_of upd_same, ?_, ?_⟩
        · show atI _ (r - 14) = _
          rw [hj2]
          exact atI_nat (List.getElem?_eq_getElem _)
        · have s3 := same_new (o := .lst [.int (-1), .int 0, .int 1, .int (10 ^ 20 - 1), v2, .int r3]) np
          have s4 := same_del (a := a) s3
          have base_ : Same (delH H a) (delH (upd H3 p (.lst [.int (-1), .int 0, .int 1, .int (10 ^ 20 - 1), v2, .int r3])) a) := by
            rw [← e1]
            refine (same_del sm).trans ?_
            rw [← e3]
            exact s4
          have fin : ∀ v d, Dq (delH (upd H3 p (.lst [.int (-1), .int 0, .int 1, .int (10 ^ 20 - 1), v2, .int r3])) a) v d → Good d 3 30 → Q v (upd H3 p (.lst [.int (-1), .int 0, .int 1, .int (10 ^ 20 - 1), v2, .int r3])) := fun v d h1 h2 =>
            hQ _ v d (hd3.same s3) base_ h1 h2
          have q2 := Dq.same s4 _ v2 (e3 ▸ q)
          have six : j = 0 ∨ j = 1 ∨ j = 2 ∨ j = 3 ∨ j = 4 ∨ j = 5 := by omega
          rcases six with rfl | rfl | rfl | rfl | rfl | rfl
          · exact fin _ _ (.int (-1)) (goodB_of (by decide +kernel))
          · exact fin _ _ (.int 0) (goodB_of (by decide +kernel))
          · exact fin _ _ (.int 1) (goodB_of (by decide +kernel))
          · exact fin _ _ (.int (10 ^ 20 - 1)) (goodB_of (by decide +kernel))
          · exact fin _ _ q2 (goodB_of (by decide +kernel))
          · exact fin _ _ (.int r3) ((good_int r30 r31).mono (by decide) (by decide))
theorem ok_thing (T : Tx K mg) : Has P w K mg base CX0 3 "_law_thing" ["hand"] spThing := by
  obtain ⟨fd, F⟩ := T.c.def_ 14 (d := d_law_thing) rfl
  have hDraw := ok_draw (P := P) (w := w) (base := base) T
  have hOdd := ok_odd (P := P) (w := w) (base := base) T
  have mr : mg "range" = none := T.free 53 rfl
  refine ⟨fd, F.ok scThing (fun vs H Q E h => ?_) (fun cdv A outer s H vs Q E hr h => ?_), FunD.bindsN F fun _ _ _ _ _ _ us hl => match us, hl with | [_], _ => rfl, F.kp, T.glo 4 rfl⟩
  · obtain ⟨a, rfl, _⟩ := h
    rfl
  · refine ⟨_, PSs.nox (pss_cons (ps_set (i := 1) scThing.nd rfl (Or.inl rfl) (pe_has hOdd (hr.mono (by decide)) pass0 (pa_cons (pv 0) pa_nil)))
 (pss_cons (ps_for PassesOwn.never rfl (pi_range1 (by rfl) mr (pa_cons (pe_has hDraw (hr.mono (by decide)) pass0 (pa_cons (pv 0) (pa_cons pe_int pa_nil))) pa_nil)) (pg_name (i := 2) scThing.nd rfl (Or.inl rfl))
 (pss_one (ps_if (pt_cmpR op_eq (pe_has hDraw (hr.mono (by decide)) pass0 (pa_cons (pv 0) (pa_cons pe_int pa_nil))) pe_int (nomark _))
 (pss_one (ps_set (i := 1) scThing.nd rfl (Or.inl rfl) (pe_tup (pa_cons (pv 1) (pa_cons (pv 2) pa_nil)))))
 (pss_one (ps_set (i := 1) scThing.nd rfl (Or.inl rfl) (pe_lstS (pa_cons (pv 2) (pa_cons (pv 1) pa_nil))))))))
 (pss_one (ps_ret (pv 1))))), ?_⟩
    obtain ⟨a, rfl, hd, hQ⟩ := h
    refine ⟨_, rfl, a, rfl, hd, fun H1 v d hd1 s1 q1 g1 => ?_⟩
    refine ⟨_, rfl, a, 37, rfl, hd1, by decide, by decide, fun H2 r hd2 e2 r0 r1 => ?_⟩
    obtain ⟨n, rfl⟩ := Int.eq_ofNat_of_zero_le r0
    refine ⟨_, rfl, by omega, by omega, for_range (lo := 0) (n := n) (fun i σ H' => ∃ (v' : V) (d' : PyData) (k' : Option V), σ = [some (.ref a), some v', k'] ∧ HandAt H' a ∧ Same (delH H a) (delH H' a) ∧ Dq (delH H' a) v' d' ∧ Good d' (3 + i) (30 + 10 * i)) ?_ ?_ ?_⟩
    · exact ⟨v, d, none, rfl, hd2, e2 ▸ s1, e2 ▸ q1, g1⟩
    · rintro i σ H' hi ⟨v', d', k', rfl, hd', s', q', g'⟩
      refine ⟨_, rfl, a, 2, rfl, hd', by decide, by decide, fun H3 r3 hd3 e3 r30 r31 => ?_⟩
      have gi : Good (.int (0 + (i : Nat))) 0 6 := good_int (by omega) (by omega)
      refine ⟨rfl, _, rfl, ?_⟩
      refine ite2 (fun _ => ?_) (fun _ => ?_)
      · refine ⟨_, rfl, _, rfl, (by show 2 ≤ sizeLine; decide), fun p np => ?_⟩
        have sp := same_new (o := .tup [v', .int (0 + (i : Nat))]) np
        refine ⟨_, _, _, rfl, hd3.same sp, ?_, .tup (hd3.held.off np upd_same) (.cons (Dq.same ?_ d' v' q') (.cons (.int _) .nil)), (good_tup2 g' gi).mono (by omega) (by omega)⟩
        · exact s'.trans (e3 ▸ same_del sp)
        · exact e3 ▸ same_del sp
      · refine ⟨_, rfl, _, rfl, (by show 2 ≤ sizeLine; decide), fun p np low => ?_⟩
        have sp := same_new (o := .lst [.int (0 + (i : Nat)), v']) np
        refine ⟨_, _, _, rfl, hd3.same sp, ?_, .lst (hd3.held.off np upd_same) low (.cons (.int _) (.cons (Dq.same ?_ d' v' q') .nil)), (good_list2 gi g').mono (by omega) (by omega)⟩
        · exact s'.trans (e3 ▸ same_del sp)
        · exact e3 ▸ same_del sp
    · rintro σ H' ⟨v', d', k', rfl, hd', s', q', g'⟩
      exact ⟨_, rfl, hQ H' v' d' hd' s' q' (g'.mono (by omega) (by omega))⟩
end
end K00

set_option maxHeartbeats 4000000
namespace V1
open PySem PySem.Spec PyProof.Rows L2
/-- an exception's class, and its fields if it has some -/
abbrev Kd : Type := Addr × Option (List (Str × V))
inductive ExAll (H : Hp) : List V → List Kd → Prop
  | nil : ExAll H [] []
  | cons {a : Addr} {k : Kd} {vs : List V} {ks : List Kd} (one : IsEx H a k.1 k.2) (more : ExAll H vs ks) : ExAll H (.ref a :: vs) (k :: ks)
theorem ExAll.same {H H' : Hp} (e : Same H H') : ∀ {vs : List V} {ks : List Kd}, ExAll H vs ks → ExAll H' vs ks
  | _, _, .nil => .nil
  | _, _, .cons one more => .cons (one.same e) (more.same e)
theorem ExAll.len {H : Hp} : ∀ {vs : List V} {ks : List Kd}, ExAll H vs ks → vs.length = ks.length
  | _, _, .nil => rfl
  | _, _, .cons _ more => congrArg (· + 1) more.len
theorem ExAll.app {H : Hp} : ∀ {vs us : List V} {ks ls : List Kd}, ExAll H vs ks → ExAll H us ls → ExAll H (vs ++ us) (ks ++ ls)
  | _, _, _, _, .nil, h => h
  | _, _, _, _, .cons one more, h => .cons one (more.app h)
theorem ExAll.get {H : Hp} : ∀ {vs : List V} {ks : List Kd} {j : Nat} {k : Kd}, ExAll H vs ks → ks[j]? = some k → ∃ a, vs[j]? = some (.ref a) ∧ IsEx H a k.1 k.2
  | _, _, 0, _, .cons one _, e => ⟨_, rfl, by
    obtain rfl := Option.some.inj e
    exact one⟩
  | _, _, j + 1, _, .cons _ more, e => more.get (j := j) e
/-- te makes an exception of this kind -/
def MkE (te : TE) (σ : L2.St) (k : Kd) : Prop := ∀ (H : Hp) (Q : VK), (∀ a H', Same H H' → IsEx H' a k.1 k.2 → Q (.ref a) H') → te σ H Q
def MkEs (ta : TA) (σ : L2.St) (ks : List Kd) : Prop := ∀ (H : Hp) (Q : List V → Hp → Prop), (∀ vs H', Same H H' → ExAll H' vs ks → Q vs H') → ta σ H Q
section
variable {σ : L2.St} {k : Kd} {ks ls : List Kd} {te : TE} {ta tb : TA}
theorem mke_nil : MkEs tNil σ [] := fun H _ q => q [] H (Same.refl H) .nil
theorem mke_cons (h : MkE te σ k) (r : MkEs ta σ ks) : MkEs (tCons te ta) σ (k :: ks) := fun H _ q => h H _ fun a H1 s1 e1 => r H1 _ fun vs H2 s2 e2 => q _ H2 (s1.trans s2) (.cons (e1.same s2) e2)
theorem mke_bare (C : Addr) : MkE (tMk0 C) σ (C, none) := fun H _ q a n => q a _ (same_new n) upd_same
/-- a list of them -/
def MkEL (te : TE) (σ : L2.St) (ks : List Kd) : Prop := ∀ (H : Hp) (Q : VK), (∀ p vs H', Same H H' → H p = none → H' p = some (.lst vs) → ExAll H' vs ks → Q (.ref p) H') → te σ H Q
theorem fresh_up {H H' : Hp} {p : Addr} (s : Same H H') (n : H' p = none) : H p = none := by
  cases e : H p with
  | none => rfl
  | some o =>
    rw [s p o e] at n
    cases n
theorem mkel_lst (r : MkEs ta σ ks) (hz : ks.length ≤ 1000) : MkEL (tLst ta) σ ks := fun H _ q => r H _ fun vs H1 s1 e1 =>
  ⟨Nat.le_of_lt (small1000 (by rw [e1.len]; exact hz)), fun p n => q p vs _ (s1.trans (same_new n)) (fresh_up s1 n) upd_same (e1.same (same_new n))⟩
theorem mkel_go {H : Hp} {Q : VK} (r : MkEs ta σ ks) (hz : ks.length ≤ 1000) (q : ∀ p vs H', Same H H' → H p = none → H' p = some (.lst vs) → ExAll H' vs ks → Q (.ref p) H') : tLst ta σ H Q := mkel_lst r hz H Q q
theorem q_mkel {H : Hp} {D : Ends} {tz : TS} {i : Nat} (r : MkEs ta σ ks) (hz : ks.length ≤ 1000) (k : ∀ p vs H', Same H H' → H p = none → H' p = some (.lst vs) → ExAll H' vs ks → tz D (σ.set i (some (.ref p))) H') :
    tSeq (tAsg (tLst ta) (gName i)) tz D σ H := by
  show tLst ta σ H fun v H' => tz D (σ.set i (some v)) H'
  exact mkel_lst r hz H _ k
/-- a list of what is told wherever G holds -/
def Bs (ta : TA) (σ : L2.St) (G : Hp → Prop) (vs : List V) : Prop := ∀ H, G H → ∀ Q : List V → Hp → Prop, Q vs H → ta σ H Q
theorem bs_nil {G : Hp → Prop} : Bs tNil σ G [] := fun H _ _ q => q
theorem bs_cons {G : Hp → Prop} {v : V} {vs : List V} (h : ∀ H, G H → ∀ Q : VK, Q v H → te σ H Q) (r : Bs ta σ G vs) : Bs (tCons te ta) σ G (v :: vs) := fun H g _ q => h H g _ (r H g _ q)
theorem q_bs {H : Hp} {D : Ends} {tz : TS} {i : Nat} {G : Hp → Prop} {vs : List V} (b : Bs ta σ G vs) (g : G H) (hz : vs.length ≤ 1000) (k : ∀ p H', Same H H' → H p = none → H' p = some (.lst vs) → tz D (σ.set i (some (.ref p))) H') :
    tSeq (tAsg (tLst ta) (gName i)) tz D σ H := by
  show tLst ta σ H fun v H' => tz D (σ.set i (some v)) H'
  exact b H g _ ⟨Nat.le_of_lt (small1000 hz), fun p n => k p _ (same_new n) n upd_same⟩
theorem r_bs {H : Hp} {Q : VK} {G : Hp → Prop} {vs : List V} (b : Bs ta σ G vs) (g : G H) (hz : vs.length ≤ 1000) (k : ∀ p H', Same H H' → H p = none → H' p = some (.lst vs) → Q (.ref p) H') : tLst ta σ H Q := b H g _ ⟨Nat.le_of_lt (small1000 hz), fun p n => k p _ (same_new n) n upd_same⟩
theorem cat_go {H : Hp} {Q : VK} {x y : Addr} {xs ys : List V} (hx : H x = some (.lst xs)) (hy : H y = some (.lst ys)) (hz : xs.length + ys.length ≤ 1000) (k : ∀ p H', Same H H' → H p = none → H' p = some (.lst (xs ++ ys)) → Q (.ref p) H') : rCat (.ref x) (.ref y) H Q :=
  ⟨x, y, xs, ys, rfl, rfl, hx, hy, Nat.le_of_lt (small1000 hz), fun p n => k p _ (same_new n) n upd_same⟩
theorem mkel_cat {t1 t2 : TE} (h1 : MkEL t1 σ ks) (h2 : MkEL t2 σ ls) (hz : ks.length + ls.length ≤ 1000) : MkEL (tOp rCat t1 t2) σ (ks ++ ls) := fun H _ q => h1 H _ fun p vs H1 s1 _ e1 x1 => h2 H1 _ fun p2 us H2 s2 _ e2 x2 =>
  ⟨p, p2, vs, us, rfl, rfl, s2 _ _ e1, e2, Nat.le_of_lt (small1000 (by rw [x1.len, x2.len]; exact hz)), fun p3 n => q p3 _ _ ((s1.trans s2).trans (same_new n)) (fresh_up (s1.trans s2) n) upd_same (((x1.same s2).app x2).same (same_new n))⟩
theorem mkel_var {i : Nat} {p : Addr} {vs : List V} {H0 : Hp} (h0 : σ[i]? = some (some (.ref p))) (e : H0 p = some (.lst vs)) (x : ExAll H0 vs ks) : ∀ (H : Hp), Same H0 H → ∀ Q : VK, (∀ H', Same H H' → H' p = some (.lst vs) → ExAll H' vs ks → Q (.ref p) H') → tVar i σ H Q :=
  fun H s Q q => ⟨_, h0, q H (Same.refl H) (s _ _ e) (x.same s)⟩
end
/-- __init__(self, f): self.f = f -/
def spIni (K : PySem.W.Frag) (C : Addr) (f : Str) : Sp := fun vs H Q _ => ∃ (a : Addr) (v : V), vs = [.ref a, v] ∧ H a = some (exo a C none) ∧ ∀ dx, H dx = none → dx ≠ a → Q .non (upd (upd H dx (exd dx [(f, v)])) a (exo a C (some dx)))
theorem mke_field {K : PySem.W.Frag} {σ : L2.St} {C : Addr} {f : Str} {v : V} {ta : TA} (ha : ∀ (H : Hp) (Q : List V → Hp → Prop), Q [v] H → ta σ H Q) : MkE (tMkV C (spIni K C f) [] ta) σ (C, some [(f, v)]) := fun H _ q => ha H _
  ⟨by show 1 ≤ 1000; decide, fun a n => ⟨a, v, rfl, upd_same, fun dx nd ne => by
    have nd' : H dx = none := by
      rw [upd_ne ne] at nd
      exact nd
    refine ⟨rfl, q a _ (fun b o e => ?_) ⟨dx, upd_same, ?_⟩⟩
    · rw [upd_ne (ne_of_none e n), upd_ne (ne_of_none e nd'), upd_ne (ne_of_none e n)]
      exact e
    · rw [upd_ne ne, upd_same]⟩⟩
end V1
namespace K00
open PySem PySem.Spec PyProof.Rows L2 V1
open Evl (pss_cut tCut sq_of st_of)
/-! ### the classes -/
section
variable {K : PySem.W.Frag} {mg : Str → Option Value}
def tErr (K : PySem.W.Frag) : Addr := He.ga K "TalkError"
theorem Tx.exs (T : Tx K mg) : ExK K (tErr K) veB ∧ (∀ x ∈ all36, ExK K (He.ga K x) (.ref (tErr K) :: veB)) ∧ (tErr K :: all36.map (He.ga K)).Nodup ∧ ClsAttr K := by
  have e := T.ex
  unfold exB at e
  simp only [Bool.and_eq_true, List.all_eq_true, decide_eq_true_eq] at e
  exact ⟨exK_of e.1, fun x hx => exK_of (e.2.1 x hx), e.2.2.1, clsAttr_of e.2.2.2⟩
theorem Tx.one (T : Tx K mg) (i : Nat) {x : Str} (h : all36[i]? = some x) : ExK K (He.ga K x) (.ref (tErr K) :: veB) := T.exs.2.1 x (List.mem_of_getElem? h)
theorem Tx.oex (T : Tx K mg) (i : Nat) {x : Str} (h : all36[i]? = some x) : OexC K (He.ga K x) := (T.one i h).oex rfl rfl
end
section
variable {P : Program} {w : World} {K : PySem.W.Frag} {mg : Str → Option Value} {base : Heap}
theorem ok_init (T : Tx K mg) {name qual : Str} {params : Arguments} {body : List Stmt} {scope : Scope} {C fI : Addr} {fd : FuncData} {f : Str} {p1 p2 p3 p4 : Pos} (F : FunD K name qual params body scope [] [] fI fd) (S : FnScope ["self", f] ["self", f] scope)
    (hb : body = [.Assign [.Attribute (.Name "self" p1) f p2] (.Name f p3) p4]) (hC : OexC K C) (no : PySem.W.findIn K (.ref C) f = some none) (hf : (f == ("__debug__" : Str)) = false) (hf2 : (f == ("__classdict__" : Str)) = false)
    (v0 : Vis scope "self") (v1 : Vis scope f) (sw : ∀ env : Env, swapsWith (.Name f p3) (some (.Attribute (.Name "self" p1) f p2)) p4.line env = pure false) : FnOk P w K mg base CX0 1 fI fd ["self", f] (spIni K C f) := by
  subst hb
  refine F.ok S (fun vs H Q E h => ?_) (fun cdv A outer s H vs Q E hr h => ?_)
  · obtain ⟨a, v, rfl, _⟩ := h
    rfl
  · refine ⟨_, PSs.nox (pss_one (ps_ost (pe_var (i := 0) rfl v0) (pe_var (i := 1) rfl v1 hf hf2) (sw _))), ?_⟩
    obtain ⟨a, v, rfl, e, hQ⟩ := h
    exact ⟨v, rfl, _, rfl, a, C, rfl, hC, no, .inl ⟨e, fun dx n ne => hQ dx n ne⟩⟩
structure Fld (P : Program) (w : World) (K : PySem.W.Frag) (mg : Str → Option Value) (base : Heap) (x f : Str) : Prop where
  gC : mg x = some (.ref (He.ga K x))
  oex : OexC K (He.ga K x)
  no : PySem.W.findIn K (.ref (He.ga K x)) f = some none
  init : ∃ fI fd, PySem.W.findIn K (.ref (He.ga K x)) "__init__" = some (some (.ref fI)) ∧ PySem.W.typeIn K (.ref fI) = some (.type "function") ∧ FnOk P w K mg base CX0 1 fI fd ["self", f] (spIni K (He.ga K x) f) ∧ Binds K fd ["self", f] []
theorem pe_fld {X : Cx} {x f : Str} {e : Expr} {es : List Expr} {ta : TA} {p pos : Pos} (h : Fld X.prog X.w X.K X.mg X.base x f) (hr : Room 2 X.A) (ha : PA X (e :: es) ta) (hg : Gl X x := by rfl) (hdb : (x == ("__debug__" : Str)) = false := by decide)
    (he : starEach (e :: es) X.env = (false, eval e X.env) :: starEach es X.env := by rfl) (hpl : (backTo pos (starEach es X.env)).any (·.1) = false := by rfl) :
    PE X (.Call (.Name x p) (e :: es) [] pos) (tMkV (He.ga X.K x) (spIni X.K (He.ga X.K x) f) [] ta) := by
  obtain ⟨fI, fd, h1, h2, h3, h4⟩ := h.init
  exact pe_mkV h.oex h1 h2 h3 hr h4 .nil pass0 hg h.gC ha hdb he hpl
theorem pmk_fld {X : Cx} {x f : Str} {e : Expr} {es : List Expr} {ta : TA} {p pos : Pos} (h : Fld X.prog X.w X.K X.mg X.base x f) (hr : Room 2 X.A) (ha : PA X (e :: es) ta) (hg : Gl X x := by rfl) (hdb : (x == ("__debug__" : Str)) = false := by decide)
    (he : starEach (e :: es) X.env = (false, eval e X.env) :: starEach es X.env := by rfl) (hpl : (backTo pos (starEach es X.env)).any (·.1) = false := by rfl) :
    PMk X (.Call (.Name x p) (e :: es) [] pos) (tMkO (He.ga X.K x) (spIni X.K (He.ga X.K x) f) [] ta) := by
  obtain ⟨fI, fd, h1, h2, h3, h4⟩ := h.init
  exact pmk_oex h.oex h1 h2 h3 hr h4 .nil pass0 hg h.gC ha hdb he hpl
theorem meth_ty {K : PySem.W.Frag} {C f : Addr} {m : Str} (h : Meth K C m f) : PySem.W.typeIn K (.ref f) = some (.type "function") := eq_of_beq h.fn
theorem scBadHouse : FnScope ["self", "row"] ["self", "row"] (defScope sBadHouse__init__) := ⟨rfl, rfl, rfl, by decide +kernel, rfl, by decide +kernel, by decide +kernel⟩
theorem fldBadHouse (T : Tx K mg) : Fld P w K mg base "BadHouse" "row" := by
  obtain ⟨fd, F⟩ := T.c.def_ 0 (d := dBadHouse__init__) rfl
  have m := He.meth_ok (T.c.fact 61 (f := .meth "BadHouse" "__init__") rfl)
  exact ⟨T.glo 14 rfl, T.oex 0 rfl, He.noat_ok (T.c.fact 71 (f := .noat "BadHouse" "row") rfl), _, fd, m.at_, meth_ty m, ok_init T F scBadHouse rfl (T.oex 0 rfl) (He.noat_ok (T.c.fact 71 (f := .noat "BadHouse" "row") rfl)) (by decide) (by decide) (Or.inl rfl) (Or.inl rfl) (fun _ => rfl), FunD.bindsN F fun _ _ _ _ _ _ us hl => match us, hl with | [_, _], _ => rfl⟩
theorem scBadTable : FnScope ["self", "part"] ["self", "part"] (defScope sBadTable__init__) := ⟨rfl, rfl, rfl, by decide +kernel, rfl, by decide +kernel, by decide +kernel⟩
theorem fldBadTable (T : Tx K mg) : Fld P w K mg base "BadTable" "part" := by
  obtain ⟨fd, F⟩ := T.c.def_ 1 (d := dBadTable__init__) rfl
  have m := He.meth_ok (T.c.fact 62 (f := .meth "BadTable" "__init__") rfl)
  exact ⟨T.glo 15 rfl, T.oex 1 rfl, He.noat_ok (T.c.fact 72 (f := .noat "BadTable" "part") rfl), _, fd, m.at_, meth_ty m, ok_init T F scBadTable rfl (T.oex 1 rfl) (He.noat_ok (T.c.fact 72 (f := .noat "BadTable" "part") rfl)) (by decide) (by decide) (Or.inl rfl) (Or.inl rfl) (fun _ => rfl), FunD.bindsN F fun _ _ _ _ _ _ us hl => match us, hl with | [_, _], _ => rfl⟩
theorem scBadText : FnScope ["self", "line"] ["self", "line"] (defScope sBadText__init__) := ⟨rfl, rfl, rfl, by decide +kernel, rfl, by decide +kernel, by decide +kernel⟩
theorem fldBadText (T : Tx K mg) : Fld P w K mg base "BadText" "line" := by
  obtain ⟨fd, F⟩ := T.c.def_ 2 (d := dBadText__init__) rfl
  have m := He.meth_ok (T.c.fact 63 (f := .meth "BadText" "__init__") rfl)
  exact ⟨T.glo 16 rfl, T.oex 2 rfl, He.noat_ok (T.c.fact 73 (f := .noat "BadText" "line") rfl), _, fd, m.at_, meth_ty m, ok_init T F scBadText rfl (T.oex 2 rfl) (He.noat_ok (T.c.fact 73 (f := .noat "BadText" "line") rfl)) (by decide) (by decide) (Or.inl rfl) (Or.inl rfl) (fun _ => rfl), FunD.bindsN F fun _ _ _ _ _ _ us hl => match us, hl with | [_, _], _ => rfl⟩
theorem scBadSchedule : FnScope ["self", "part"] ["self", "part"] (defScope sBadSchedule__init__) := ⟨rfl, rfl, rfl, by decide +kernel, rfl, by decide +kernel, by decide +kernel⟩
theorem fldBadSchedule (T : Tx K mg) : Fld P w K mg base "BadSchedule" "part" := by
  obtain ⟨fd, F⟩ := T.c.def_ 3 (d := dBadSchedule__init__) rfl
  have m := He.meth_ok (T.c.fact 64 (f := .meth "BadSchedule" "__init__") rfl)
  exact ⟨T.glo 17 rfl, T.oex 3 rfl, He.noat_ok (T.c.fact 74 (f := .noat "BadSchedule" "part") rfl), _, fd, m.at_, meth_ty m, ok_init T F scBadSchedule rfl (T.oex 3 rfl) (He.noat_ok (T.c.fact 74 (f := .noat "BadSchedule" "part") rfl)) (by decide) (by decide) (Or.inl rfl) (Or.inl rfl) (fun _ => rfl), FunD.bindsN F fun _ _ _ _ _ _ us hl => match us, hl with | [_, _], _ => rfl⟩
theorem scBadFaults : FnScope ["self", "part"] ["self", "part"] (defScope sBadFaults__init__) := ⟨rfl, rfl, rfl, by decide +kernel, rfl, by decide +kernel, by decide +kernel⟩
theorem fldBadFaults (T : Tx K mg) : Fld P w K mg base "BadFaults" "part" := by
  obtain ⟨fd, F⟩ := T.c.def_ 4 (d := dBadFaults__init__) rfl
  have m := He.meth_ok (T.c.fact 65 (f := .meth "BadFaults" "__init__") rfl)
  exact ⟨T.glo 18 rfl, T.oex 4 rfl, He.noat_ok (T.c.fact 75 (f := .noat "BadFaults" "part") rfl), _, fd, m.at_, meth_ty m, ok_init T F scBadFaults rfl (T.oex 4 rfl) (He.noat_ok (T.c.fact 75 (f := .noat "BadFaults" "part") rfl)) (by decide) (by decide) (Or.inl rfl) (Or.inl rfl) (fun _ => rfl), FunD.bindsN F fun _ _ _ _ _ _ us hl => match us, hl with | [_, _], _ => rfl⟩
theorem scBadLetter : FnScope ["self", "letter"] ["self", "letter"] (defScope sBadLetter__init__) := ⟨rfl, rfl, rfl, by decide +kernel, rfl, by decide +kernel, by decide +kernel⟩
theorem fldBadLetter (T : Tx K mg) : Fld P w K mg base "BadLetter" "letter" := by
  obtain ⟨fd, F⟩ := T.c.def_ 5 (d := dBadLetter__init__) rfl
  have m := He.meth_ok (T.c.fact 66 (f := .meth "BadLetter" "__init__") rfl)
  exact ⟨T.glo 19 rfl, T.oex 5 rfl, He.noat_ok (T.c.fact 76 (f := .noat "BadLetter" "letter") rfl), _, fd, m.at_, meth_ty m, ok_init T F scBadLetter rfl (T.oex 5 rfl) (He.noat_ok (T.c.fact 76 (f := .noat "BadLetter" "letter") rfl)) (by decide) (by decide) (Or.inl rfl) (Or.inl rfl) (fun _ => rfl), FunD.bindsN F fun _ _ _ _ _ _ us hl => match us, hl with | [_, _], _ => rfl⟩
theorem scBadEar : FnScope ["self", "letter"] ["self", "letter"] (defScope sBadEar__init__) := ⟨rfl, rfl, rfl, by decide +kernel, rfl, by decide +kernel, by decide +kernel⟩
theorem fldBadEar (T : Tx K mg) : Fld P w K mg base "BadEar" "letter" := by
  obtain ⟨fd, F⟩ := T.c.def_ 6 (d := dBadEar__init__) rfl
  have m := He.meth_ok (T.c.fact 67 (f := .meth "BadEar" "__init__") rfl)
  exact ⟨T.glo 20 rfl, T.oex 6 rfl, He.noat_ok (T.c.fact 77 (f := .noat "BadEar" "letter") rfl), _, fd, m.at_, meth_ty m, ok_init T F scBadEar rfl (T.oex 6 rfl) (He.noat_ok (T.c.fact 77 (f := .noat "BadEar" "letter") rfl)) (by decide) (by decide) (Or.inl rfl) (Or.inl rfl) (fun _ => rfl), FunD.bindsN F fun _ _ _ _ _ _ us hl => match us, hl with | [_, _], _ => rfl⟩
theorem scBadThing : FnScope ["self", "place"] ["self", "place"] (defScope sBadThing__init__) := ⟨rfl, rfl, rfl, by decide +kernel, rfl, by decide +kernel, by decide +kernel⟩
theorem fldBadThing (T : Tx K mg) : Fld P w K mg base "BadThing" "place" := by
  obtain ⟨fd, F⟩ := T.c.def_ 7 (d := dBadThing__init__) rfl
  have m := He.meth_ok (T.c.fact 68 (f := .meth "BadThing" "__init__") rfl)
  exact ⟨T.glo 21 rfl, T.oex 7 rfl, He.noat_ok (T.c.fact 78 (f := .noat "BadThing" "place") rfl), _, fd, m.at_, meth_ty m, ok_init T F scBadThing rfl (T.oex 7 rfl) (He.noat_ok (T.c.fact 78 (f := .noat "BadThing" "place") rfl)) (by decide) (by decide) (Or.inl rfl) (Or.inl rfl) (fun _ => rfl), FunD.bindsN F fun _ _ _ _ _ _ us hl => match us, hl with | [_, _], _ => rfl⟩
theorem scNoName : FnScope ["self", "name"] ["self", "name"] (defScope sNoName__init__) := ⟨rfl, rfl, rfl, by decide +kernel, rfl, by decide +kernel, by decide +kernel⟩
theorem fldNoName (T : Tx K mg) : Fld P w K mg base "NoName" "name" := by
  obtain ⟨fd, F⟩ := T.c.def_ 8 (d := dNoName__init__) rfl
  have m := He.meth_ok (T.c.fact 69 (f := .meth "NoName" "__init__") rfl)
  exact ⟨T.glo 22 rfl, T.oex 8 rfl, He.noat_ok (T.c.fact 79 (f := .noat "NoName" "name") rfl), _, fd, m.at_, meth_ty m, ok_init T F scNoName rfl (T.oex 8 rfl) (He.noat_ok (T.c.fact 79 (f := .noat "NoName" "name") rfl)) (by decide) (by decide) (Or.inl rfl) (Or.inl rfl) (fun _ => rfl), FunD.bindsN F fun _ _ _ _ _ _ us hl => match us, hl with | [_, _], _ => rfl⟩
theorem scTooMany : FnScope ["self", "most"] ["self", "most"] (defScope sTooMany__init__) := ⟨rfl, rfl, rfl, by decide +kernel, rfl, by decide +kernel, by decide +kernel⟩
theorem fldTooMany (T : Tx K mg) : Fld P w K mg base "TooMany" "most" := by
  obtain ⟨fd, F⟩ := T.c.def_ 9 (d := dTooMany__init__) rfl
  have m := He.meth_ok (T.c.fact 70 (f := .meth "TooMany" "__init__") rfl)
  exact ⟨T.glo 23 rfl, T.oex 9 rfl, He.noat_ok (T.c.fact 80 (f := .noat "TooMany" "most") rfl), _, fd, m.at_, meth_ty m, ok_init T F scTooMany rfl (T.oex 9 rfl) (He.noat_ok (T.c.fact 80 (f := .noat "TooMany" "most") rfl)) (by decide) (by decide) (Or.inl rfl) (Or.inl rfl) (fun _ => rfl), FunD.bindsN F fun _ _ _ _ _ _ us hl => match us, hl with | [_, _], _ => rfl⟩
end
end K00

set_option maxHeartbeats 4000000
namespace K00
open PySem PySem.Spec PyProof.Rows L2 V1
open Evl (pss_cut tCut sq_of st_of)
section
variable {K : PySem.W.Frag} {mg : Str → Option Value}
theorem excQ (T : Tx K mg) (i : Nat) {x : Str} (h : fa[i]? = some (.exc x)) : PySem.W.excIn K (He.ga K x) He.veBase "ValueError.__new__" = true ∧ PySem.W.keepIn K (.ref (He.ga K x)) = true := by
  have z := He.exc_ok (T.c.fact i h)
  exact ⟨z.1, z.2.1⟩
end
/-- the 36 kinds, the first ten with v in their field -/
def kF (K : PySem.W.Frag) (v : V) : List Kd := fld10.map fun p => (He.ga K p.1, some [(p.2, v)])
def kB (K : PySem.W.Frag) : List Kd := bare26.map fun x => (He.ga K x, none)
def spFielded (K : PySem.W.Frag) : Sp := fun vs H Q _ => ∃ v : V, vs = [v] ∧ ∀ (H' : Hp) (p : Addr) (us : List V), Same H H' → H p = none → H' p = some (.lst us) → ExAll H' us (kF K v) → Q (.ref p) H'
def spBare (K : PySem.W.Frag) : Sp := fun vs H Q _ => vs = [] ∧ ∀ (H' : Hp) (p : Addr) (us : List V), Same H H' → H p = none → H' p = some (.lst us) → ExAll H' us (kB K) → Q (.ref p) H'
/-- the class of an exception of the package -/
def Own (K : PySem.W.Frag) (C : Addr) : Prop := C = tErr K ∨ ∃ x ∈ all36, C = He.ga K x
def marksOf (K : PySem.W.Frag) (C : Addr) : List Bool := all36.map fun x => decide (C = He.ga K x)
def spMarks (K : PySem.W.Frag) : Sp := fun vs H Q _ => ∃ (a C : Addr) (o : Option (List (Str × V))), vs = [.ref a] ∧ IsEx H a C o ∧ Own K C ∧ ∀ (H' : Hp) (p : Addr), Same H H' → H p = none → H' p = some (.lst ((marksOf K C).map V.bl)) → Q (.ref p) H'
def spAlien (K : PySem.W.Frag) : Sp := fun vs H Q _ => ∃ (a C : Addr) (o : Option (List (Str × V))), vs = [.ref a] ∧ IsEx H a C o ∧ Own K C ∧ Q (.bl false) H
def spFields (K : PySem.W.Frag) : Sp := fun vs H Q _ => ∃ (p : Addr) (us : List V) (v : V) (r : List Kd), vs = [.ref p] ∧ H p = some (.lst us) ∧ ExAll H us (kF K v ++ r) ∧ ∀ (H' : Hp) (q : Addr), Same H H' → H q = none → H' q = some (.lst (List.replicate 10 v)) → Q (.ref q) H'
theorem scFielded : FnScope ["thing", "first"] ["thing"] (defScope s_law_fielded) := ⟨rfl, rfl, rfl, by decide +kernel, rfl, by decide +kernel, by decide +kernel⟩
theorem scBare : FnScope ["first", "second"] [] (defScope s_law_bare) := ⟨rfl, rfl, rfl, by decide +kernel, rfl, by decide +kernel, by decide +kernel⟩
theorem scMarks : FnScope ["one", "first", "second", "third", "last"] ["one"] (defScope s_law_marks) := ⟨rfl, rfl, rfl, by decide +kernel, rfl, by decide +kernel, by decide +kernel⟩
theorem scAlien : FnScope ["one"] ["one"] (defScope s_law_is_alien) := ⟨rfl, rfl, rfl, by decide +kernel, rfl, by decide +kernel, by decide +kernel⟩
theorem scFields : FnScope ["errors", "first"] ["errors"] (defScope s_law_fields) := ⟨rfl, rfl, rfl, by decide +kernel, rfl, by decide +kernel, by decide +kernel⟩
section
variable {P : Program} {w : World} {K : PySem.W.Frag} {mg : Str → Option Value} {base : Heap}
theorem Own.is (T : Tx K mg) {C : Addr} (h : Own K C) {σ : L2.St} {a : Addr} {o : Option (List (Str × V))} (i : Nat) {x : Str} (hx : all36[i]? = some x) (h0 : σ[0]? = some (some (.ref a))) (H : Hp) (e : IsEx H a C o) (Q : VK) (q : Q (.bl (decide (C = He.ga K x))) H) :
    tCB (rIsiX K) (tCons (tVar 0) (tCons (tC (.ref (He.ga K x))) tNil)) σ H Q := by
  have D := T.one i hx
  obtain ⟨hE, hA, nd, cA⟩ := T.exs
  have ne : (tErr K) ≠ He.ga K x := fun z => (List.nodup_cons.mp nd).1 (List.mem_map.mpr ⟨x, List.mem_of_getElem? hx, z.symm⟩)
  rcases h with rfl | ⟨y, hy, rfl⟩
  · refine ⟨_, h0, a, _, o, _, _, _, _, rfl, e, hE, cA, rfl, rfl, .own _, hE.kit D, ?_⟩
    have z : (veB.contains (Value.ref (He.ga K x))) = false := rfl
    rw [z, Bool.or_false]
    exact q
  · refine ⟨_, h0, a, _, o, _, _, _, _, rfl, e, hA y hy, cA, rfl, rfl, .own _, (hA y hy).kit D, ?_⟩
    have z : ((Value.ref (tErr K) :: veB).contains (Value.ref (He.ga K x))) = false := by
      rw [List.contains_cons]
      have z1 : (Value.ref (He.ga K x) == Value.ref (tErr K)) = false := by simpa using Ne.symm ne
      rw [z1]
      rfl
    rw [z, Bool.or_false]
    exact q
theorem Own.isT (T : Tx K mg) {C : Addr} (h : Own K C) {σ : L2.St} {a : Addr} {o : Option (List (Str × V))} {n : String} (hm : PySem.W.kitMeta n = true) (hn : veB.contains (.type n) = false) (h0 : σ[0]? = some (some (.ref a))) (H : Hp) (e : IsEx H a C o) (Q : VK) (q : Q (.bl false) H) :
    tCB (rIsiX K) (tCons (tVar 0) (tCons (tC (.ty n)) tNil)) σ H Q := by
  obtain ⟨hE, hA, nd, cA⟩ := T.exs
  rcases h with rfl | ⟨y, hy, rfl⟩
  · refine ⟨_, h0, a, _, o, _, _, _, _, rfl, e, hE, cA, rfl, rfl, .ty n, hE.kitT hm, ?_⟩
    rw [hn]
    exact q
  · refine ⟨_, h0, a, _, o, _, _, _, _, rfl, e, hA y hy, cA, rfl, rfl, .ty n, (hA y hy).kitT hm, ?_⟩
    rw [List.contains_cons, hn]
    exact q
theorem ok_fielded (T : Tx K mg) : Has P w K mg base CX0 3 "_law_fielded" ["thing"] (spFielded K) := by
  obtain ⟨fd, F⟩ := T.c.def_ 15 (d := d_law_fielded) rfl
  refine ⟨fd, F.ok scFielded (fun vs H Q E h => ?_) (fun cdv A outer s H vs Q E hr h => ?_), FunD.bindsN F fun _ _ _ _ _ _ us hl => match us, hl with | [_], _ => rfl, F.kp, T.glo 5 rfl⟩
  · obtain ⟨v, rfl, _⟩ := h
    rfl
  · refine ⟨_, PSs.nox (pss_cons (ps_set (i := 1) scFielded.nd rfl (Or.inl rfl) (pe_lst (pa_cons (pe_fld (fldBadHouse T) (hr.mono (by decide)) (pa_cons (pv 0) pa_nil)) (pa_cons (pe_fld (fldBadTable T) (hr.mono (by decide)) (pa_cons (pv 0) pa_nil)) (pa_cons (pe_fld (fldBadText T) (hr.mono (by decide)) (pa_cons (pv 0) pa_nil)) (pa_cons (pe_fld (fldBadSchedule T) (hr.mono (by decide)) (pa_cons (pv 0) pa_nil)) (pa_cons (pe_fld (fldBadFaults T) (hr.mono (by decide)) (pa_cons (pv 0) pa_nil)) pa_nil)))))))
 (pss_one (ps_ret (pe_op op_cat (pv 1) (pe_lst (pa_cons (pe_fld (fldBadLetter T) (hr.mono (by decide)) (pa_cons (pv 0) pa_nil)) (pa_cons (pe_fld (fldBadEar T) (hr.mono (by decide)) (pa_cons (pv 0) pa_nil)) (pa_cons (pe_fld (fldBadThing T) (hr.mono (by decide)) (pa_cons (pv 0) pa_nil)) (pa_cons (pe_fld (fldNoName T) (hr.mono (by decide)) (pa_cons (pv 0) pa_nil)) (pa_cons (pe_fld (fldTooMany T) (hr.mono (by decide)) (pa_cons (pv 0) pa_nil)) pa_nil)))))))))), ?_⟩
    obtain ⟨v, rfl, hQ⟩ := h
    have one_arg : ∀ {σ : L2.St}, σ[0]? = some (some v) → ∀ (H : Hp) (Q : List V → Hp → Prop), Q [v] H → (tCons (tVar 0) tNil) σ H Q := fun h0 H Q q => ⟨v, h0, q⟩
    refine q_mkel (mke_cons (mke_field (one_arg (by rfl))) (mke_cons (mke_field (one_arg (by rfl))) (mke_cons (mke_field (one_arg (by rfl))) (mke_cons (mke_field (one_arg (by rfl))) (mke_cons (mke_field (one_arg (by rfl))) mke_nil))))) (by show 5 ≤ 1000; decide) fun p us H1 s1 n1 e1 x1 => ?_
    refine ⟨_, rfl, mkel_go (mke_cons (mke_field (one_arg (by rfl))) (mke_cons (mke_field (one_arg (by rfl))) (mke_cons (mke_field (one_arg (by rfl))) (mke_cons (mke_field (one_arg (by rfl))) (mke_cons (mke_field (one_arg (by rfl))) mke_nil))))) (by show 5 ≤ 1000; decide) fun p2 us2 H2 s2 n2 e2 x2 => cat_go (s2 _ _ e1) e2 (by rw [x1.len, x2.len]; show 5 + 5 ≤ 1000; decide) fun p3 H3 s3 n3 e3 => ?_⟩
    exact hQ H3 p3 _ ((s1.trans s2).trans s3) (fresh_up (s1.trans s2) n3) e3 (((x1.same s2).app x2).same s3)
theorem ok_bare (T : Tx K mg) : Has P w K mg base CX0 1 "_law_bare" [] (spBare K) := by
  obtain ⟨fd, F⟩ := T.c.def_ 16 (d := d_law_bare) rfl
  refine ⟨fd, F.ok scBare (fun vs H Q E h => ?_) (fun cdv A outer s H vs Q E hr h => ?_), FunD.bindsN F fun _ _ _ _ _ _ us hl => match us, hl with | [], _ => rfl, F.kp, T.glo 6 rfl⟩
  · obtain ⟨rfl, _⟩ := h
    rfl
  · refine ⟨_, PSs.nox (pss_cons (ps_set (i := 0) scBare.nd rfl (Or.inl rfl) (pe_lst (pa_cons (pe_mk0 PySem.F.excBase_ValueError (excQ T 81 rfl).1 (T.glo 24 rfl) (excQ T 81 rfl).2 (by rfl)) (pa_cons (pe_mk0 PySem.F.excBase_ValueError (excQ T 82 rfl).1 (T.glo 25 rfl) (excQ T 82 rfl).2 (by rfl)) (pa_cons (pe_mk0 PySem.F.excBase_ValueError (excQ T 83 rfl).1 (T.glo 26 rfl) (excQ T 83 rfl).2 (by rfl)) (pa_cons (pe_mk0 PySem.F.excBase_ValueError (excQ T 84 rfl).1 (T.glo 27 rfl) (excQ T 84 rfl).2 (by rfl)) (pa_cons (pe_mk0 PySem.F.excBase_ValueError (excQ T 85 rfl).1 (T.glo 28 rfl) (excQ T 85 rfl).2 (by rfl)) (pa_cons (pe_mk0 PySem.F.excBase_ValueError (excQ T 86 rfl).1 (T.glo 29 rfl) (excQ T 86 rfl).2 (by rfl)) (pa_cons (pe_mk0 PySem.F.excBase_ValueError (excQ T 87 rfl).1 (T.glo 30 rfl) (excQ T 87 rfl).2 (by rfl)) (pa_cons (pe_mk0 PySem.F.excBase_ValueError (excQ T 88 rfl).1 (T.glo 31 rfl) (excQ T 88 rfl).2 (by rfl)) (pa_cons (pe_mk0 PySem.F.excBase_ValueError (excQ T 89 rfl).1 (T.glo 32 rfl) (excQ T 89 rfl).2 (by rfl)) pa_nil)))))))))))
 (pss_cons (ps_set (i := 1) scBare.nd rfl (Or.inl rfl) (pe_lst (pa_cons (pe_mk0 PySem.F.excBase_ValueError (excQ T 90 rfl).1 (T.glo 33 rfl) (excQ T 90 rfl).2 (by rfl)) (pa_cons (pe_mk0 PySem.F.excBase_ValueError (excQ T 91 rfl).1 (T.glo 34 rfl) (excQ T 91 rfl).2 (by rfl)) (pa_cons (pe_mk0 PySem.F.excBase_ValueError (excQ T 92 rfl).1 (T.glo 35 rfl) (excQ T 92 rfl).2 (by rfl)) (pa_cons (pe_mk0 PySem.F.excBase_ValueError (excQ T 93 rfl).1 (T.glo 36 rfl) (excQ T 93 rfl).2 (by rfl)) (pa_cons (pe_mk0 PySem.F.excBase_ValueError (excQ T 94 rfl).1 (T.glo 37 rfl) (excQ T 94 rfl).2 (by rfl)) (pa_cons (pe_mk0 PySem.F.excBase_ValueError (excQ T 95 rfl).1 (T.glo 38 rfl) (excQ T 95 rfl).2 (by rfl)) (pa_cons (pe_mk0 PySem.F.excBase_ValueError (excQ T 96 rfl).1 (T.glo 39 rfl) (excQ T 96 rfl).2 (by rfl)) (pa_cons (pe_mk0 PySem.F.excBase_ValueError (excQ T 97 rfl).1 (T.glo 40 rfl) (excQ T 97 rfl).2 (by rfl)) (pa_cons (pe_mk0 PySem.F.excBase_ValueError (excQ T 98 rfl).1 (T.glo 41 rfl) (excQ T 98 rfl).2 (by rfl)) pa_nil)))))))))))
 (pss_one (ps_ret (pe_op op_cat (pe_op op_cat (pv 0) (pv 1)) (pe_lst (pa_cons (pe_mk0 PySem.F.excBase_ValueError (excQ T 99 rfl).1 (T.glo 42 rfl) (excQ T 99 rfl).2 (by rfl)) (pa_cons (pe_mk0 PySem.F.excBase_ValueError (excQ T 100 rfl).1 (T.glo 43 rfl) (excQ T 100 rfl).2 (by rfl)) (pa_cons (pe_mk0 PySem.F.excBase_ValueError (excQ T 101 rfl).1 (T.glo 44 rfl) (excQ T 101 rfl).2 (by rfl)) (pa_cons (pe_mk0 PySem.F.excBase_ValueError (excQ T 102 rfl).1 (T.glo 45 rfl) (excQ T 102 rfl).2 (by rfl)) (pa_cons (pe_mk0 PySem.F.excBase_ValueError (excQ T 103 rfl).1 (T.glo 46 rfl) (excQ T 103 rfl).2 (by rfl)) (pa_cons (pe_mk0 PySem.F.excBase_ValueError (excQ T 104 rfl).1 (T.glo 47 rfl) (excQ T 104 rfl).2 (by rfl)) (pa_cons (pe_mk0 PySem.F.excBase_ValueError (excQ T 105 rfl).1 (T.glo 48 rfl) (excQ T 105 rfl).2 (by rfl)) (pa_cons (pe_mk0 PySem.F.excBase_ValueError (excQ T 106 rfl).1 (T.glo 49 rfl) (excQ T 106 rfl).2 (by rfl)) pa_nil)))))))))))))), ?_⟩
    obtain ⟨rfl, hQ⟩ := h
    refine q_mkel (mke_cons (mke_bare _) (mke_cons (mke_bare _) (mke_cons (mke_bare _) (mke_cons (mke_bare _) (mke_cons (mke_bare _) (mke_cons (mke_bare _) (mke_cons (mke_bare _) (mke_cons (mke_bare _) (mke_cons (mke_bare _) mke_nil))))))))) (by show 9 ≤ 1000; decide) fun p us H1 s1 n1 e1 x1 => ?_
    refine q_mkel (mke_cons (mke_bare _) (mke_cons (mke_bare _) (mke_cons (mke_bare _) (mke_cons (mke_bare _) (mke_cons (mke_bare _) (mke_cons (mke_bare _) (mke_cons (mke_bare _) (mke_cons (mke_bare _) (mke_cons (mke_bare _) mke_nil))))))))) (by show 9 ≤ 1000; decide) fun p2 us2 H2 s2 n2 e2 x2 => ?_
    refine ⟨_, rfl, _, rfl, cat_go (s2 _ _ e1) e2 (by rw [x1.len, x2.len]; show 9 + 9 ≤ 1000; decide) fun p3 H3 s3 n3 e3 => ?_⟩
    have x3 := ((x1.same s2).app x2).same s3
    refine mkel_go (mke_cons (mke_bare _) (mke_cons (mke_bare _) (mke_cons (mke_bare _) (mke_cons (mke_bare _) (mke_cons (mke_bare _) (mke_cons (mke_bare _) (mke_cons (mke_bare _) (mke_cons (mke_bare _) mke_nil)))))))) (by show 8 ≤ 1000; decide) fun p4 us4 H4 s4 n4 e4 x4 => cat_go (s4 _ _ e3) e4 (by rw [x3.len, x4.len]; show 18 + 8 ≤ 1000; decide) fun p5 H5 s5 n5 e5 => ?_
    have s6 := ((s1.trans s2).trans s3).trans s4
    exact hQ H5 p5 _ (s6.trans s5) (fresh_up s6 n5) e5 (((x3.same s4).app x4).same s5)
theorem ok_marks (T : Tx K mg) : Has P w K mg base CX0 1 "_law_marks" ["one"] (spMarks K) := by
  obtain ⟨fd, F⟩ := T.c.def_ 17 (d := d_law_marks) rfl
  have mis : mg "isinstance" = none := T.free 55 rfl
  refine ⟨fd, F.ok scMarks (fun vs H Q E h => ?_) (fun cdv A outer s H vs Q E hr h => ?_), FunD.bindsN F fun _ _ _ _ _ _ us hl => match us, hl with | [_], _ => rfl, F.kp, T.glo 7 rfl⟩
  · obtain ⟨a, C, o, rfl, _⟩ := h
    rfl
  · refine ⟨_, PSs.nox (pss_cons (ps_set (i := 1) scMarks.nd rfl (Or.inl rfl) (pe_lst (pa_cons (pe_callB call_isiX (by rfl) mis (by decide +kernel) (pa_cons (pv 0) (pa_cons (pe_glob (v := .ref (He.ga K "BadHouse")) (by rfl) (T.glo 14 rfl) rfl) pa_nil))) (pa_cons (pe_callB call_isiX (by rfl) mis (by decide +kernel) (pa_cons (pv 0) (pa_cons (pe_glob (v := .ref (He.ga K "BadTable")) (by rfl) (T.glo 15 rfl) rfl) pa_nil))) (pa_cons (pe_callB call_isiX (by rfl) mis (by decide +kernel) (pa_cons (pv 0) (pa_cons (pe_glob (v := .ref (He.ga K "BadText")) (by rfl) (T.glo 16 rfl) rfl) pa_nil))) (pa_cons (pe_callB call_isiX (by rfl) mis (by decide +kernel) (pa_cons (pv 0) (pa_cons (pe_glob (v := .ref (He.ga K "BadSchedule")) (by rfl) (T.glo 17 rfl) rfl) pa_nil))) (pa_cons (pe_callB call_isiX (by rfl) mis (by decide +kernel) (pa_cons (pv 0) (pa_cons (pe_glob (v := .ref (He.ga K "BadFaults")) (by rfl) (T.glo 18 rfl) rfl) pa_nil))) (pa_cons (pe_callB call_isiX (by rfl) mis (by decide +kernel) (pa_cons (pv 0) (pa_cons (pe_glob (v := .ref (He.ga K "BadLetter")) (by rfl) (T.glo 19 rfl) rfl) pa_nil))) (pa_cons (pe_callB call_isiX (by rfl) mis (by decide +kernel) (pa_cons (pv 0) (pa_cons (pe_glob (v := .ref (He.ga K "BadEar")) (by rfl) (T.glo 20 rfl) rfl) pa_nil))) (pa_cons (pe_callB call_isiX (by rfl) mis (by decide +kernel) (pa_cons (pv 0) (pa_cons (pe_glob (v := .ref (He.ga K "BadThing")) (by rfl) (T.glo 21 rfl) rfl) pa_nil))) (pa_cons (pe_callB call_isiX (by rfl) mis (by decide +kernel) (pa_cons (pv 0) (pa_cons (pe_glob (v := .ref (He.ga K "NoName")) (by rfl) (T.glo 22 rfl) rfl) pa_nil))) (pa_cons (pe_callB call_isiX (by rfl) mis (by decide +kernel) (pa_cons (pv 0) (pa_cons (pe_glob (v := .ref (He.ga K "TooMany")) (by rfl) (T.glo 23 rfl) rfl) pa_nil))) pa_nil))))))))))))
 (pss_cons (ps_set (i := 2) scMarks.nd rfl (Or.inl rfl) (pe_lst (pa_cons (pe_callB call_isiX (by rfl) mis (by decide +kernel) (pa_cons (pv 0) (pa_cons (pe_glob (v := .ref (He.ga K "NoRow")) (by rfl) (T.glo 24 rfl) rfl) pa_nil))) (pa_cons (pe_callB call_isiX (by rfl) mis (by decide +kernel) (pa_cons (pv 0) (pa_cons (pe_glob (v := .ref (He.ga K "NoOrder")) (by rfl) (T.glo 25 rfl) rfl) pa_nil))) (pa_cons (pe_callB call_isiX (by rfl) mis (by decide +kernel) (pa_cons (pv 0) (pa_cons (pe_glob (v := .ref (He.ga K "BadProgram")) (by rfl) (T.glo 26 rfl) rfl) pa_nil))) (pa_cons (pe_callB call_isiX (by rfl) mis (by decide +kernel) (pa_cons (pv 0) (pa_cons (pe_glob (v := .ref (He.ga K "NoProgram")) (by rfl) (T.glo 27 rfl) rfl) pa_nil))) (pa_cons (pe_callB call_isiX (by rfl) mis (by decide +kernel) (pa_cons (pv 0) (pa_cons (pe_glob (v := .ref (He.ga K "NoNumber")) (by rfl) (T.glo 28 rfl) rfl) pa_nil))) (pa_cons (pe_callB call_isiX (by rfl) mis (by decide +kernel) (pa_cons (pv 0) (pa_cons (pe_glob (v := .ref (He.ga K "NoNet")) (by rfl) (T.glo 29 rfl) rfl) pa_nil))) (pa_cons (pe_callB call_isiX (by rfl) mis (by decide +kernel) (pa_cons (pv 0) (pa_cons (pe_glob (v := .ref (He.ga K "NoLetters")) (by rfl) (T.glo 30 rfl) rfl) pa_nil))) (pa_cons (pe_callB call_isiX (by rfl) mis (by decide +kernel) (pa_cons (pv 0) (pa_cons (pe_glob (v := .ref (He.ga K "NoHouses")) (by rfl) (T.glo 31 rfl) rfl) pa_nil))) (pa_cons (pe_callB call_isiX (by rfl) mis (by decide +kernel) (pa_cons (pv 0) (pa_cons (pe_glob (v := .ref (He.ga K "NoHouse")) (by rfl) (T.glo 32 rfl) rfl) pa_nil))) pa_nil)))))))))))
 (pss_cons (ps_set (i := 3) scMarks.nd rfl (Or.inl rfl) (pe_lst (pa_cons (pe_callB call_isiX (by rfl) mis (by decide +kernel) (pa_cons (pv 0) (pa_cons (pe_glob (v := .ref (He.ga K "NoIndex")) (by rfl) (T.glo 33 rfl) rfl) pa_nil))) (pa_cons (pe_callB call_isiX (by rfl) mis (by decide +kernel) (pa_cons (pv 0) (pa_cons (pe_glob (v := .ref (He.ga K "NoOther")) (by rfl) (T.glo 34 rfl) rfl) pa_nil))) (pa_cons (pe_callB call_isiX (by rfl) mis (by decide +kernel) (pa_cons (pv 0) (pa_cons (pe_glob (v := .ref (He.ga K "NoLetter")) (by rfl) (T.glo 35 rfl) rfl) pa_nil))) (pa_cons (pe_callB call_isiX (by rfl) mis (by decide +kernel) (pa_cons (pv 0) (pa_cons (pe_glob (v := .ref (He.ga K "NoState")) (by rfl) (T.glo 36 rfl) rfl) pa_nil))) (pa_cons (pe_callB call_isiX (by rfl) mis (by decide +kernel) (pa_cons (pv 0) (pa_cons (pe_glob (v := .ref (He.ga K "NoBar")) (by rfl) (T.glo 37 rfl) rfl) pa_nil))) (pa_cons (pe_callB call_isiX (by rfl) mis (by decide +kernel) (pa_cons (pv 0) (pa_cons (pe_glob (v := .ref (He.ga K "NoKind")) (by rfl) (T.glo 38 rfl) rfl) pa_nil))) (pa_cons (pe_callB call_isiX (by rfl) mis (by decide +kernel) (pa_cons (pv 0) (pa_cons (pe_glob (v := .ref (He.ga K "NoEar")) (by rfl) (T.glo 39 rfl) rfl) pa_nil))) (pa_cons (pe_callB call_isiX (by rfl) mis (by decide +kernel) (pa_cons (pv 0) (pa_cons (pe_glob (v := .ref (He.ga K "NotNow")) (by rfl) (T.glo 40 rfl) rfl) pa_nil))) (pa_cons (pe_callB call_isiX (by rfl) mis (by decide +kernel) (pa_cons (pv 0) (pa_cons (pe_glob (v := .ref (He.ga K "NoFaults")) (by rfl) (T.glo 41 rfl) rfl) pa_nil))) pa_nil)))))))))))
 (pss_cons (ps_set (i := 4) scMarks.nd rfl (Or.inl rfl) (pe_lst (pa_cons (pe_callB call_isiX (by rfl) mis (by decide +kernel) (pa_cons (pv 0) (pa_cons (pe_glob (v := .ref (He.ga K "NoTellings")) (by rfl) (T.glo 42 rfl) rfl) pa_nil))) (pa_cons (pe_callB call_isiX (by rfl) mis (by decide +kernel) (pa_cons (pv 0) (pa_cons (pe_glob (v := .ref (He.ga K "NoWord")) (by rfl) (T.glo 43 rfl) rfl) pa_nil))) (pa_cons (pe_callB call_isiX (by rfl) mis (by decide +kernel) (pa_cons (pv 0) (pa_cons (pe_glob (v := .ref (He.ga K "NoLiars")) (by rfl) (T.glo 44 rfl) rfl) pa_nil))) (pa_cons (pe_callB call_isiX (by rfl) mis (by decide +kernel) (pa_cons (pv 0) (pa_cons (pe_glob (v := .ref (He.ga K "NoLine")) (by rfl) (T.glo 45 rfl) rfl) pa_nil))) (pa_cons (pe_callB call_isiX (by rfl) mis (by decide +kernel) (pa_cons (pv 0) (pa_cons (pe_glob (v := .ref (He.ga K "NoCut")) (by rfl) (T.glo 46 rfl) rfl) pa_nil))) (pa_cons (pe_callB call_isiX (by rfl) mis (by decide +kernel) (pa_cons (pv 0) (pa_cons (pe_glob (v := .ref (He.ga K "NoThing")) (by rfl) (T.glo 47 rfl) rfl) pa_nil))) (pa_cons (pe_callB call_isiX (by rfl) mis (by decide +kernel) (pa_cons (pv 0) (pa_cons (pe_glob (v := .ref (He.ga K "NoDisk")) (by rfl) (T.glo 48 rfl) rfl) pa_nil))) (pa_cons (pe_callB call_isiX (by rfl) mis (by decide +kernel) (pa_cons (pv 0) (pa_cons (pe_glob (v := .ref (He.ga K "NoBarShown")) (by rfl) (T.glo 49 rfl) rfl) pa_nil))) pa_nil))))))))))
 (pss_one (ps_ret (pe_op op_cat (pe_op op_cat (pe_op op_cat (pv 1) (pv 2)) (pv 3)) (pv 4)))))))), ?_⟩
    obtain ⟨a, C, o, rfl, hx, hC, hQ⟩ := h
    have one_is : ∀ {σ : L2.St} (i : Nat) {x : Str} (hx : all36[i]? = some x) (h0 : σ[0]? = some (some (.ref a))) (H : Hp), IsEx H a C o → ∀ Q : VK, Q (.bl (decide (C = He.ga K x))) H → tCB (rIsiX K) (tCons (tVar 0) (tCons (tC (.ref (He.ga K x))) tNil)) σ H Q :=
      fun i _ hx h0 H e Q q => hC.is T i hx h0 H e Q q
    refine q_bs (G := fun H => IsEx H a C o) (bs_cons (one_is 0 rfl (by rfl)) (bs_cons (one_is 1 rfl (by rfl)) (bs_cons (one_is 2 rfl (by rfl)) (bs_cons (one_is 3 rfl (by rfl)) (bs_cons (one_is 4 rfl (by rfl)) (bs_cons (one_is 5 rfl (by rfl)) (bs_cons (one_is 6 rfl (by rfl)) (bs_cons (one_is 7 rfl (by rfl)) (bs_cons (one_is 8 rfl (by rfl)) (bs_cons (one_is 9 rfl (by rfl)) bs_nil)))))))))) hx (by show 10 ≤ 1000; decide) fun p1 H1 s1 n1 e1 => ?_
    refine q_bs (G := fun H => IsEx H a C o) (bs_cons (one_is 10 rfl (by rfl)) (bs_cons (one_is 11 rfl (by rfl)) (bs_cons (one_is 12 rfl (by rfl)) (bs_cons (one_is 13 rfl (by rfl)) (bs_cons (one_is 14 rfl (by rfl)) (bs_cons (one_is 15 rfl (by rfl)) (bs_cons (one_is 16 rfl (by rfl)) (bs_cons (one_is 17 rfl (by rfl)) (bs_cons (one_is 18 rfl (by rfl)) bs_nil))))))))) (hx.same s1) (by show 9 ≤ 1000; decide) fun p2 H2 s2 n2 e2 => ?_
    refine q_bs (G := fun H => IsEx H a C o) (bs_cons (one_is 19 rfl (by rfl)) (bs_cons (one_is 20 rfl (by rfl)) (bs_cons (one_is 21 rfl (by rfl)) (bs_cons (one_is 22 rfl (by rfl)) (bs_cons (one_is 23 rfl (by rfl)) (bs_cons (one_is 24 rfl (by rfl)) (bs_cons (one_is 25 rfl (by rfl)) (bs_cons (one_is 26 rfl (by rfl)) (bs_cons (one_is 27 rfl (by rfl)) bs_nil))))))))) (hx.same (s1.trans s2)) (by show 9 ≤ 1000; decide) fun p3 H3 s3 n3 e3 => ?_
    refine q_bs (G := fun H => IsEx H a C o) (bs_cons (one_is 28 rfl (by rfl)) (bs_cons (one_is 29 rfl (by rfl)) (bs_cons (one_is 30 rfl (by rfl)) (bs_cons (one_is 31 rfl (by rfl)) (bs_cons (one_is 32 rfl (by rfl)) (bs_cons (one_is 33 rfl (by rfl)) (bs_cons (one_is 34 rfl (by rfl)) (bs_cons (one_is 35 rfl (by rfl)) bs_nil)))))))) (hx.same ((s1.trans s2).trans s3)) (by show 8 ≤ 1000; decide) fun p4 H4 s4 n4 e4 => ?_
    refine ⟨_, rfl, _, rfl, cat_go (s4 _ _ (s3 _ _ (s2 _ _ e1))) (s4 _ _ (s3 _ _ e2)) (by show 19 ≤ 1000; decide) fun p5 H5 s5 n5 e5 => ?_⟩
    refine ⟨_, rfl, cat_go e5 (s5 _ _ (s4 _ _ e3)) (by show 28 ≤ 1000; decide) fun p6 H6 s6 n6 e6 => ?_⟩
    refine ⟨_, rfl, cat_go e6 (s6 _ _ (s5 _ _ e4)) (by show 36 ≤ 1000; decide) fun p7 H7 s7 n7 e7 => ?_⟩
    have s8 := ((((s1.trans s2).trans s3).trans s4).trans s5).trans s6
    exact hQ H7 p7 (s8.trans s7) (fresh_up s8 n7) e7
theorem ok_alien (T : Tx K mg) : Has P w K mg base CX0 1 "_law_is_alien" ["one"] (spAlien K) := by
  obtain ⟨fd, F⟩ := T.c.def_ 18 (d := d_law_is_alien) rfl
  have mis : mg "isinstance" = none := T.free 55 rfl
  have m1 : mg "KeyError" = none := T.free 58 rfl
  have m2 : mg "IndexError" = none := T.free 59 rfl
  have m3 : mg "ArithmeticError" = none := T.free 60 rfl
  refine ⟨fd, F.ok scAlien (fun vs H Q E h => ?_) (fun cdv A outer s H vs Q E hr h => ?_), FunD.bindsN F fun _ _ _ _ _ _ us hl => match us, hl with | [_], _ => rfl, F.kp, T.glo 8 rfl⟩
  · obtain ⟨a, C, o, rfl, _⟩ := h
    rfl
  · refine ⟨_, PSs.nox (pss_one (ps_ret (pe_or (pe_callB call_isiX (by rfl) mis (by decide +kernel) (pa_cons (pv 0) (pa_cons (pe_bltn (v := .ty "KeyError") (by rfl) m1 (by decide +kernel) rfl) pa_nil))) (pe_or (pe_callB call_isiX (by rfl) mis (by decide +kernel) (pa_cons (pv 0) (pa_cons (pe_bltn (v := .ty "IndexError") (by rfl) m2 (by decide +kernel) rfl) pa_nil))) (pe_one (pe_callB call_isiX (by rfl) mis (by decide +kernel) (pa_cons (pv 0) (pa_cons (pe_bltn (v := .ty "ArithmeticError") (by rfl) m3 (by decide +kernel) rfl) pa_nil)))))))), ?_⟩
    obtain ⟨a, C, o, rfl, hx, hC, hQ⟩ := h
    refine hC.isT T (by decide +kernel) (by decide +kernel) rfl H hx _ ⟨_, rfl, iteF ?_⟩
    refine hC.isT T (by decide +kernel) (by decide +kernel) rfl H hx _ ⟨_, rfl, iteF ?_⟩
    exact hC.isT T (by decide +kernel) (by decide +kernel) rfl H hx _ hQ
theorem ok_fields (T : Tx K mg) : Has P w K mg base CX0 1 "_law_fields" ["errors"] (spFields K) := by
  obtain ⟨fd, F⟩ := T.c.def_ 19 (d := d_law_fields) rfl
  refine ⟨fd, F.ok scFields (fun vs H Q E h => ?_) (fun cdv A outer s H vs Q E hr h => ?_), FunD.bindsN F fun _ _ _ _ _ _ us hl => match us, hl with | [_], _ => rfl, F.kp, T.glo 9 rfl⟩
  · obtain ⟨p, us, v, r, rfl, _⟩ := h
    rfl
  · refine ⟨_, PSs.nox (pss_cons (ps_set (i := 1) scFields.nd rfl (Or.inl rfl) (pe_lst (pa_cons (pe_ef (pe_ix ix_list (pv 0) pe_int (fun _ _ => rfl))) (pa_cons (pe_ef (pe_ix ix_list (pv 0) pe_int (fun _ _ => rfl))) (pa_cons (pe_ef (pe_ix ix_list (pv 0) pe_int (fun _ _ => rfl))) (pa_cons (pe_ef (pe_ix ix_list (pv 0) pe_int (fun _ _ => rfl))) (pa_cons (pe_ef (pe_ix ix_list (pv 0) pe_int (fun _ _ => rfl))) (pa_cons (pe_ef (pe_ix ix_list (pv 0) pe_int (fun _ _ => rfl))) pa_nil))))))))
 (pss_one (ps_ret (pe_op op_cat (pv 1) (pe_lst (pa_cons (pe_ef (pe_ix ix_list (pv 0) pe_int (fun _ _ => rfl))) (pa_cons (pe_ef (pe_ix ix_list (pv 0) pe_int (fun _ _ => rfl))) (pa_cons (pe_ef (pe_ix ix_list (pv 0) pe_int (fun _ _ => rfl))) (pa_cons (pe_ef (pe_ix ix_list (pv 0) pe_int (fun _ _ => rfl))) pa_nil))))))))), ?_⟩
    obtain ⟨p, us, v, r, rfl, e, x, hQ⟩ := h
    have fld : ∀ {σ : L2.St} (j : Nat) {y f : Str} (hj : fld10[j]? = some (y, f)) (H1 : Hp), Same H H1 → ∀ Q : VK, σ[0]? = some (some (.ref p)) → Q v H1 → tEf K f (tOp (rIxL K) (tVar 0) (tC (.int j))) σ H1 Q := by
      intro σ j y f hj H1 s Q h0 q
      have hk : (kF K v ++ r)[j]? = some (He.ga K y, some [(f, v)]) := by
        have z : (kF K v)[j]? = some (He.ga K y, some [(f, v)]) := by
          unfold kF
          rw [List.getElem?_map, hj]
          rfl
        rw [List.getElem?_append_left (List.getElem?_eq_some_iff.mp z).1, z]
      obtain ⟨a, ha, ea⟩ := x.get hk
      have hall : all36[j]? = some y := by
        have z : (fld10.map (·.1))[j]? = some y := by
          rw [List.getElem?_map, hj]
          rfl
        unfold all36
        rw [List.getElem?_append_left (List.getElem?_eq_some_iff.mp z).1, z]
      have no : PySem.W.findIn K (.ref (He.ga K y)) f = some none := by
        have z : He.Fa.noat y f ∈ fa := by
          unfold fa
          simp only [List.mem_append, List.mem_cons, List.mem_map]
          exact .inr (.inr (.inr (.inr (.inr (.inr (.inl ⟨(y, f), List.mem_of_getElem? hj, rfl⟩))))))
        obtain ⟨i, hi, ei⟩ := List.mem_iff_getElem.mp z
        exact He.noat_ok (T.c.fact i (f := .noat y f) (by rw [List.getElem?_eq_getElem hi, ei]))
      refine ⟨_, h0, p, us, j, .ref a, rfl, rfl, sq_of (s _ _ e), atI_nat ha, a, _, _, _, v, rfl, ea.same s, T.one j hall, rfl, no, ?_, q⟩
      simp [List.lookup]
    refine fld 0 rfl _ (Same.refl H) _ rfl (fld 1 rfl _ (Same.refl H) _ rfl (fld 2 rfl _ (Same.refl H) _ rfl (fld 3 rfl _ (Same.refl H) _ rfl (fld 4 rfl _ (Same.refl H) _ rfl (fld 5 rfl _ (Same.refl H) _ rfl ⟨(by show 6 ≤ sizeLine; decide), fun p1 n1 => ?_⟩)))))
    have s1 := same_new (o := .lst (List.replicate 6 v)) n1
    refine ⟨_, rfl, fld 6 rfl _ s1 _ rfl (fld 7 rfl _ s1 _ rfl (fld 8 rfl _ s1 _ rfl (fld 9 rfl _ s1 _ rfl ⟨(by show 4 ≤ sizeLine; decide), fun p2 n2 => ?_⟩)))⟩
    have s2 := same_new (o := .lst (List.replicate 4 v)) n2
    refine ⟨p1, p2, _, _, rfl, rfl, s2 _ _ upd_same, upd_same, (by show 10 ≤ sizeLine; decide), fun p3 n3 => ?_⟩
    exact hQ _ p3 ((s1.trans s2).trans (same_new n3)) (fresh_up (s1.trans s2) n3) upd_same
end
end K00

set_option maxHeartbeats 4000000
namespace V1
open PySem PySem.Spec PyProof.Rows L2
theorem wCl_take {K : PySem.W.Frag} {W : WX} {D : Ends} {c cls : Value} {o : Option Nat} {ts : Addr → Value → Option Addr → TS} {l : List Cl} {d : Option Addr} {σ : L2.St} {H : Hp} (h : PySem.W.exmOne K cls c = some true) (k : ∀ a, H a = none → suiteD D a cls d ts σ H o) :
    wCl K W D ((c, o, ts) :: l) cls d σ H := ⟨true, h, fun _ => k, (fun z => nomatch z)⟩
theorem wCl_skip {K : PySem.W.Frag} {W : WX} {D : Ends} {c cls : Value} {o : Option Nat} {ts : Addr → Value → Option Addr → TS} {l : List Cl} {d : Option Addr} {σ : L2.St} {H : Hp} (h : PySem.W.exmOne K cls c = some false) (k : wCl K W D l cls d σ H) :
    wCl K W D ((c, o, ts) :: l) cls d σ H := ⟨false, h, (fun z => nomatch z), fun _ => k⟩
/-- raise C(e), C's __init__ keeping its one field -/
theorem raise_go {K : PySem.W.Frag} {σ : L2.St} {H : Hp} {C : Addr} {f : Str} {v : V} {ta : TA} {Q : XK} (ha : ∀ Q : List V → Hp → Prop, Q [v] H → ta σ H Q) (k : ∀ d H', H d = none → Same H H' → H' d = some (.xd [(f, v)]) → Q (.ref C) (some d) H') :
    tMkO C (spIni K C f) [] ta σ H Q := ha _ ⟨by show 1 ≤ 1000; decide, fun a n => ⟨a, v, rfl, upd_same, fun dx nd ne => by
  have nd' : H dx = none := by
    rw [upd_ne ne] at nd
    exact nd
  refine ⟨rfl, dx, [(f, v)], upd_same, ?_, nd', k dx _ nd' (fun b o e => ?_) upd_same⟩
  · rw [upd_ne ne, upd_same]
  · rw [upd_ne (ne_of_none e nd'), del_ne (ne_of_none e n), upd_ne (ne_of_none e n), upd_ne (ne_of_none e nd'), upd_ne (ne_of_none e n)]
    exact e⟩⟩
end V1
namespace K00
open PySem PySem.Spec PyProof.Rows L2 V1
open Evl (pss_cut tCut sq_of st_of)
def spRaise (K : PySem.W.Frag) : Sp := fun vs H _ E => ∃ (j : Nat) (v : V), vs = [.int j, v] ∧ j < 10 ∧ ∀ (x f : Str), fld10[j]? = some (x, f) → ∀ (d : Addr) (H' : Hp), H d = none → Same H H' → H' d = some (.xd [(f, v)]) → E (.ref (He.ga K x)) (some d) H'
def spCaught : Sp := fun vs H Q _ => ∃ (j : Nat) (v : V), vs = [.int j, v] ∧ j < 10 ∧ ∀ (H' : Hp) (q : Addr), Same H H' → H q = none → H' q = some (.tup [.int j, v]) → Q (.ref q) H'
def spBased : Sp := fun vs H Q _ => ∃ (j : Nat) (v : V), vs = [.int j, v] ∧ j < 10 ∧ ∀ H' : Hp, Same H H' → Q (.bl true) H'
theorem scRaise : FnScope ["which", "thing"] ["which", "thing"] (defScope s_law_raise) := ⟨rfl, rfl, rfl, by decide +kernel, rfl, by decide +kernel, by decide +kernel⟩
theorem scCaught : FnScope ["which", "thing", "error"] ["which", "thing"] (defScope s_law_caught) := ⟨rfl, rfl, rfl, by decide +kernel, rfl, by decide +kernel, by decide +kernel⟩
theorem scBased : FnScope ["which", "thing"] ["which", "thing"] (defScope s_law_is_based) := ⟨rfl, rfl, rfl, by decide +kernel, rfl, by decide +kernel, by decide +kernel⟩
section
variable {K : PySem.W.Frag} {mg : Str → Option Value}
theorem Tx.xf (T : Tx K mg) (i : Nat) {x : Str} (h : all36[i]? = some x) : XfC K (He.ga K x) := by
  have E := T.one i h
  exact ⟨E.ga, E.gg, by rw [E.sub]; rfl, E.hasDict⟩
theorem Tx.no (T : Tx K mg) (i : Nat) {x f : Str} (h : fa[i]? = some (.noat x f)) : PySem.W.findIn K (.ref (He.ga K x)) f = some none := He.noat_ok (T.c.fact i h)
theorem Tx.exm (T : Tx K mg) (i j : Nat) {x y : Str} (hx : all36[i]? = some x) (hy : all36[j]? = some y) : PySem.W.exmOne K (.ref (He.ga K x)) (.ref (He.ga K y)) = some (decide (i = j)) := by
  obtain ⟨hE, hA, nd, cA⟩ := T.exs
  rw [(T.one i hx).exm (T.one j hy) rfl]
  obtain ⟨n1, n2⟩ := List.nodup_cons.mp nd
  have ne : (tErr K) ≠ He.ga K y := fun z => n1 (List.mem_map.mpr ⟨y, List.mem_of_getElem? hy, z.symm⟩)
  have z : ((Value.ref (tErr K) :: veB).contains (Value.ref (He.ga K y))) = false := by
    rw [List.contains_cons]
    have z1 : (Value.ref (He.ga K y) == Value.ref (tErr K)) = false := by simpa using Ne.symm ne
    rw [z1]
    rfl
  rw [z, Bool.or_false]
  by_cases e : i = j
  · subst e
    have exy : x = y := Option.some.inj (hx.symm.trans hy)
    rw [exy, decide_eq_true rfl, decide_eq_true rfl]
  · rw [decide_eq_false e]
    have ne2 : He.ga K x ≠ He.ga K y := fun q => by
      have a1 : (all36.map (He.ga K))[i]? = some (He.ga K x) := by rw [List.getElem?_map, hx]; rfl
      have a2 : (all36.map (He.ga K))[j]? = some (He.ga K y) := by rw [List.getElem?_map, hy]; rfl
      rw [q] at a1
      have li := (List.getElem?_eq_some_iff.mp a1).1
      exact e ((List.getElem?_inj li n2).mp (a1.trans a2.symm))
    rw [decide_eq_false ne2]
theorem Tx.exmT (T : Tx K mg) (i : Nat) {x : Str} (hx : all36[i]? = some x) : PySem.W.exmOne K (.ref (He.ga K x)) (.ref (tErr K)) = some true := by
  rw [(T.one i hx).exm T.exs.1 rfl]
  have z : ((Value.ref (tErr K) :: veB).contains (Value.ref (tErr K))) = true := by
    rw [List.contains_cons]
    simp
  rw [z, Bool.or_true]
end
/-- a clause's suite: return (i, error.f) -/
def clTs (K : PySem.W.Frag) (i : Int) (x f : Str) : Addr → Value → Option Addr → TS := fun a cls d => tRet (tTup (tCons (tC (.int i)) (tCons (tXf a cls d (He.ga K x) f (tVar 2)) tNil)))
section
variable {P : Program} {w : World} {K : PySem.W.Frag} {mg : Str → Option Value} {base : Heap}
theorem ok_raise (T : Tx K mg) : Has P w K mg base (L2.CX P w) 3 "_law_raise" ["which", "thing"] (spRaise K) := by
  obtain ⟨fd, F⟩ := T.c.def_ 20 (d := d_law_raise) rfl
  refine ⟨fd, F.ok scRaise (fun vs H Q E h => ?_) (fun cdv A outer s H vs Q E hr h => ?_), FunD.bindsN F fun _ _ _ _ _ _ us hl => match us, hl with | [_, _], _ => rfl, F.kp, T.glo 10 rfl⟩
  · obtain ⟨j, v, rfl, _⟩ := h
    rfl
  · refine ⟨_, (pss_cons (ps_if (pt_cmpR op_eq (pv 0) pe_int (nomark _)) (pss_one (ps_raise rfl (takes_of rfl rfl rfl rfl) (pmk_fld (fldBadHouse T) (hr.mono (by decide)) (pa_cons (pv 1) pa_nil)))) pss_nil)
 (pss_cons (ps_if (pt_cmpR op_eq (pv 0) pe_int (nomark _)) (pss_one (ps_raise rfl (takes_of rfl rfl rfl rfl) (pmk_fld (fldBadTable T) (hr.mono (by decide)) (pa_cons (pv 1) pa_nil)))) pss_nil)
 (pss_cons (ps_if (pt_cmpR op_eq (pv 0) pe_int (nomark _)) (pss_one (ps_raise rfl (takes_of rfl rfl rfl rfl) (pmk_fld (fldBadText T) (hr.mono (by decide)) (pa_cons (pv 1) pa_nil)))) pss_nil)
 (pss_cons (ps_if (pt_cmpR op_eq (pv 0) pe_int (nomark _)) (pss_one (ps_raise rfl (takes_of rfl rfl rfl rfl) (pmk_fld (fldBadSchedule T) (hr.mono (by decide)) (pa_cons (pv 1) pa_nil)))) pss_nil)
 (pss_cons (ps_if (pt_cmpR op_eq (pv 0) pe_int (nomark _)) (pss_one (ps_raise rfl (takes_of rfl rfl rfl rfl) (pmk_fld (fldBadFaults T) (hr.mono (by decide)) (pa_cons (pv 1) pa_nil)))) pss_nil)
 (pss_cons (ps_if (pt_cmpR op_eq (pv 0) pe_int (nomark _)) (pss_one (ps_raise rfl (takes_of rfl rfl rfl rfl) (pmk_fld (fldBadLetter T) (hr.mono (by decide)) (pa_cons (pv 1) pa_nil)))) pss_nil)
 (pss_cons (ps_if (pt_cmpR op_eq (pv 0) pe_int (nomark _)) (pss_one (ps_raise rfl (takes_of rfl rfl rfl rfl) (pmk_fld (fldBadEar T) (hr.mono (by decide)) (pa_cons (pv 1) pa_nil)))) pss_nil)
 (pss_cons (ps_if (pt_cmpR op_eq (pv 0) pe_int (nomark _)) (pss_one (ps_raise rfl (takes_of rfl rfl rfl rfl) (pmk_fld (fldBadThing T) (hr.mono (by decide)) (pa_cons (pv 1) pa_nil)))) pss_nil)
 (pss_cons (ps_if (pt_cmpR op_eq (pv 0) pe_int (nomark _)) (pss_one (ps_raise rfl (takes_of rfl rfl rfl rfl) (pmk_fld (fldNoName T) (hr.mono (by decide)) (pa_cons (pv 1) pa_nil)))) pss_nil)
 (pss_one (ps_raise rfl (takes_of rfl rfl rfl rfl) (pmk_fld (fldTooMany T) (hr.mono (by decide)) (pa_cons (pv 1) pa_nil))))))))))))), ?_⟩
    obtain ⟨j, v, rfl, hj, hQ⟩ := h
    have go : ∀ {x f : Str}, fld10[j]? = some (x, f) → tMkO (He.ga K x) (spIni K (He.ga K x) f) [] (tCons (tVar 1) tNil) [some (.int (j : Int)), some v] H E := fun e => raise_go (v := v) (fun Q q => ⟨v, rfl, q⟩) (hQ _ _ e)
    have ten : j = 0 ∨ j = 1 ∨ j = 2 ∨ j = 3 ∨ j = 4 ∨ j = 5 ∨ j = 6 ∨ j = 7 ∨ j = 8 ∨ j = 9 := by omega
    rcases ten with rfl | rfl | rfl | rfl | rfl | rfl | rfl | rfl | rfl | rfl
    · exact ⟨_, rfl, rfl, _, rfl, iteT (go rfl)⟩
    · exact ⟨_, rfl, rfl, _, rfl, iteF ⟨_, rfl, rfl, _, rfl, iteT (go rfl)⟩⟩
    · exact ⟨_, rfl, rfl, _, rfl, iteF ⟨_, rfl, rfl, _, rfl, iteF ⟨_, rfl, rfl, _, rfl, iteT (go rfl)⟩⟩⟩
    · exact ⟨_, rfl, rfl, _, rfl, iteF ⟨_, rfl, rfl, _, rfl, iteF ⟨_, rfl, rfl, _, rfl, iteF ⟨_, rfl, rfl, _, rfl, iteT (go rfl)⟩⟩⟩⟩
    · exact ⟨_, rfl, rfl, _, rfl, iteF ⟨_, rfl, rfl, _, rfl, iteF ⟨_, rfl, rfl, _, rfl, iteF ⟨_, rfl, rfl, _, rfl, iteF ⟨_, rfl, rfl, _, rfl, iteT (go rfl)⟩⟩⟩⟩⟩
    · exact ⟨_, rfl, rfl, _, rfl, iteF ⟨_, rfl, rfl, _, rfl, iteF ⟨_, rfl, rfl, _, rfl, iteF ⟨_, rfl, rfl, _, rfl, iteF ⟨_, rfl, rfl, _, rfl, iteF ⟨_, rfl, rfl, _, rfl, iteT (go rfl)⟩⟩⟩⟩⟩⟩
    · exact ⟨_, rfl, rfl, _, rfl, iteF ⟨_, rfl, rfl, _, rfl, iteF ⟨_, rfl, rfl, _, rfl, iteF ⟨_, rfl, rfl, _, rfl, iteF ⟨_, rfl, rfl, _, rfl, iteF ⟨_, rfl, rfl, _, rfl, iteF ⟨_, rfl, rfl, _, rfl, iteT (go rfl)⟩⟩⟩⟩⟩⟩⟩
    · exact ⟨_, rfl, rfl, _, rfl, iteF ⟨_, rfl, rfl, _, rfl, iteF ⟨_, rfl, rfl, _, rfl, iteF ⟨_, rfl, rfl, _, rfl, iteF ⟨_, rfl, rfl, _, rfl, iteF ⟨_, rfl, rfl, _, rfl, iteF ⟨_, rfl, rfl, _, rfl, iteF ⟨_, rfl, rfl, _, rfl, iteT (go rfl)⟩⟩⟩⟩⟩⟩⟩⟩
    · exact ⟨_, rfl, rfl, _, rfl, iteF ⟨_, rfl, rfl, _, rfl, iteF ⟨_, rfl, rfl, _, rfl, iteF ⟨_, rfl, rfl, _, rfl, iteF ⟨_, rfl, rfl, _, rfl, iteF ⟨_, rfl, rfl, _, rfl, iteF ⟨_, rfl, rfl, _, rfl, iteF ⟨_, rfl, rfl, _, rfl, iteF ⟨_, rfl, rfl, _, rfl, iteT (go rfl)⟩⟩⟩⟩⟩⟩⟩⟩⟩
    · exact ⟨_, rfl, rfl, _, rfl, iteF ⟨_, rfl, rfl, _, rfl, iteF ⟨_, rfl, rfl, _, rfl, iteF ⟨_, rfl, rfl, _, rfl, iteF ⟨_, rfl, rfl, _, rfl, iteF ⟨_, rfl, rfl, _, rfl, iteF ⟨_, rfl, rfl, _, rfl, iteF ⟨_, rfl, rfl, _, rfl, iteF ⟨_, rfl, rfl, _, rfl, iteF (go rfl)⟩⟩⟩⟩⟩⟩⟩⟩⟩
theorem ok_caught (T : Tx K mg) : Has P w K mg base CX0 4 "_law_caught" ["which", "thing"] spCaught := by
  obtain ⟨fd, F⟩ := T.c.def_ 21 (d := d_law_caught) rfl
  obtain ⟨fR, GR, bR, kR, gR⟩ := ok_raise (P := P) (w := w) (base := base) T
  refine ⟨fd, F.ok scCaught (fun vs H Q E h => ?_) (fun cdv A outer s H vs Q E hr h => ?_), FunD.bindsN F fun _ _ _ _ _ _ us hl => match us, hl with | [_, _], _ => rfl, F.kp, T.glo 11 rfl⟩
  · obtain ⟨j, v, rfl, _⟩ := h
    rfl
  · refine ⟨_, PSs.nox (pss_cons (ps_try_cl (tb := fun W => tDrop (tCallS (spRaise K) (WE W) (tCons (tVar 0) (tCons (tVar 1) tNil)))) (Wout := fun _ _ _ _ => False) (l := [(.ref (He.ga K "BadHouse"), some 2, clTs K 0 "BadHouse" "row"), (.ref (He.ga K "BadTable"), some 2, clTs K 1 "BadTable" "part"), (.ref (He.ga K "BadText"), some 2, clTs K 2 "BadText" "line"), (.ref (He.ga K "BadSchedule"), some 2, clTs K 3 "BadSchedule" "part"), (.ref (He.ga K "BadFaults"), some 2, clTs K 4 "BadFaults" "part"), (.ref (He.ga K "BadLetter"), some 2, clTs K 5 "BadLetter" "letter"), (.ref (He.ga K "BadEar"), some 2, clTs K 6 "BadEar" "letter"), (.ref (He.ga K "BadThing"), some 2, clTs K 7 "BadThing" "place"), (.ref (He.ga K "NoName"), some 2, clTs K 8 "NoName" "name"), (.ref (He.ga K "TooMany"), some 2, clTs K 9 "TooMany" "most")]) rfl rfl scCaught.nd takes0
        (fun W pn xe tk _ => pss_one (ps_expr (by exact (pe_callS GR (hr.mono (by decide)) rfl gR kR bR (fun σ => passAt tk σ) (by exact (pa_cons (pv 0) (pa_cons (pv 1) pa_nil)))))))
        (.named (i := 2) (c := .ref (He.ga K "BadHouse")) (ts := clTs K 0 "BadHouse" "row") rfl rfl ⟨rfl, by decide, .inl (T.glo 14 rfl)⟩ (fun a oe cls d pn hz hf => pss_one (ps_ret (pe_tup (pa_cons pe_int (pa_cons (pe_xf (T.xf 0 rfl) (T.no 71 rfl) hz hf (pv 2)) pa_nil))))) (.named (i := 2) (c := .ref (He.ga K "BadTable")) (ts := clTs K 1 "BadTable" "part") rfl rfl ⟨rfl, by decide, .inl (T.glo 15 rfl)⟩ (fun a oe cls d pn hz hf => pss_one (ps_ret (pe_tup (pa_cons pe_int (pa_cons (pe_xf (T.xf 1 rfl) (T.no 72 rfl) hz hf (pv 2)) pa_nil))))) (.named (i := 2) (c := .ref (He.ga K "BadText")) (ts := clTs K 2 "BadText" "line") rfl rfl ⟨rfl, by decide, .inl (T.glo 16 rfl)⟩ (fun a oe cls d pn hz hf => pss_one (ps_ret (pe_tup (pa_cons pe_int (pa_cons (pe_xf (T.xf 2 rfl) (T.no 73 rfl) hz hf (pv 2)) pa_nil))))) (.named (i := 2) (c := .ref (He.ga K "BadSchedule")) (ts := clTs K 3 "BadSchedule" "part") rfl rfl ⟨rfl, by decide, .inl (T.glo 17 rfl)⟩ (fun a oe cls d pn hz hf => pss_one (ps_ret (pe_tup (pa_cons pe_int (pa_cons (pe_xf (T.xf 3 rfl) (T.no 74 rfl) hz hf (pv 2)) pa_nil))))) (.named (i := 2) (c := .ref (He.ga K "BadFaults")) (ts := clTs K 4 "BadFaults" "part") rfl rfl ⟨rfl, by decide, .inl (T.glo 18 rfl)⟩ (fun a oe cls d pn hz hf => pss_one (ps_ret (pe_tup (pa_cons pe_int (pa_cons (pe_xf (T.xf 4 rfl) (T.no 75 rfl) hz hf (pv 2)) pa_nil))))) (.named (i := 2) (c := .ref (He.ga K "BadLetter")) (ts := clTs K 5 "BadLetter" "letter") rfl rfl ⟨rfl, by decide, .inl (T.glo 19 rfl)⟩ (fun a oe cls d pn hz hf => pss_one (ps_ret (pe_tup (pa_cons pe_int (pa_cons (pe_xf (T.xf 5 rfl) (T.no 76 rfl) hz hf (pv 2)) pa_nil))))) (.named (i := 2) (c := .ref (He.ga K "BadEar")) (ts := clTs K 6 "BadEar" "letter") rfl rfl ⟨rfl, by decide, .inl (T.glo 20 rfl)⟩ (fun a oe cls d pn hz hf => pss_one (ps_ret (pe_tup (pa_cons pe_int (pa_cons (pe_xf (T.xf 6 rfl) (T.no 77 rfl) hz hf (pv 2)) pa_nil))))) (.named (i := 2) (c := .ref (He.ga K "BadThing")) (ts := clTs K 7 "BadThing" "place") rfl rfl ⟨rfl, by decide, .inl (T.glo 21 rfl)⟩ (fun a oe cls d pn hz hf => pss_one (ps_ret (pe_tup (pa_cons pe_int (pa_cons (pe_xf (T.xf 7 rfl) (T.no 78 rfl) hz hf (pv 2)) pa_nil))))) (.named (i := 2) (c := .ref (He.ga K "NoName")) (ts := clTs K 8 "NoName" "name") rfl rfl ⟨rfl, by decide, .inl (T.glo 22 rfl)⟩ (fun a oe cls d pn hz hf => pss_one (ps_ret (pe_tup (pa_cons pe_int (pa_cons (pe_xf (T.xf 8 rfl) (T.no 79 rfl) hz hf (pv 2)) pa_nil))))) (.named (i := 2) (c := .ref (He.ga K "TooMany")) (ts := clTs K 9 "TooMany" "most") rfl rfl ⟨rfl, by decide, .inl (T.glo 23 rfl)⟩ (fun a oe cls d pn hz hf => pss_one (ps_ret (pe_tup (pa_cons pe_int (pa_cons (pe_xf (T.xf 9 rfl) (T.no 80 rfl) hz hf (pv 2)) pa_nil))))) .nil))))))))))) (pss_one (ps_ret (pe_tup (pa_cons pe_int (pa_cons pe_non pa_nil)))))), ?_⟩
    obtain ⟨j, v, rfl, hj, hQ⟩ := h
    refine ⟨_, rfl, _, rfl, j, v, rfl, hj, fun x f hj d H' nd sm hd => ?_⟩
    have ten : j = 0 ∨ j = 1 ∨ j = 2 ∨ j = 3 ∨ j = 4 ∨ j = 5 ∨ j = 6 ∨ j = 7 ∨ j = 8 ∨ j = 9 := by omega
    rcases ten with rfl | rfl | rfl | rfl | rfl | rfl | rfl | rfl | rfl | rfl
    · obtain ⟨rfl, rfl⟩ := Prod.mk.inj (Option.some.inj hj)
      refine wCl_take (T.exm 0 0 rfl rfl) fun a na => ?_
      refine ⟨_, rfl, rfl, rfl, d, _, v, rfl, hd, (by simp [List.lookup]), (by show 2 ≤ sizeLine; decide), fun q nq => ?_⟩
      exact hQ _ q (sm.trans (same_new nq)) (fresh_up sm nq) upd_same
    · obtain ⟨rfl, rfl⟩ := Prod.mk.inj (Option.some.inj hj)
      refine wCl_skip (T.exm 1 0 rfl rfl) (wCl_take (T.exm 1 1 rfl rfl) fun a na => ?_)
      refine ⟨_, rfl, rfl, rfl, d, _, v, rfl, hd, (by simp [List.lookup]), (by show 2 ≤ sizeLine; decide), fun q nq => ?_⟩
      exact hQ _ q (sm.trans (same_new nq)) (fresh_up sm nq) upd_same
    · obtain ⟨rfl, rfl⟩ := Prod.mk.inj (Option.some.inj hj)
      refine wCl_skip (T.exm 2 0 rfl rfl) (wCl_skip (T.exm 2 1 rfl rfl) (wCl_take (T.exm 2 2 rfl rfl) fun a na => ?_))
      refine ⟨_, rfl, rfl, rfl, d, _, v, rfl, hd, (by simp [List.lookup]), (by show 2 ≤ sizeLine; decide), fun q nq => ?_⟩
      exact hQ _ q (sm.trans (same_new nq)) (fresh_up sm nq) upd_same
    · obtain ⟨rfl, rfl⟩ := Prod.mk.inj (Option.some.inj hj)
      refine wCl_skip (T.exm 3 0 rfl rfl) (wCl_skip (T.exm 3 1 rfl rfl) (wCl_skip (T.exm 3 2 rfl rfl) (wCl_take (T.exm 3 3 rfl rfl) fun a na => ?_)))
      refine ⟨_, rfl, rfl, rfl, d, _, v, rfl, hd, (by simp [List.lookup]), (by show 2 ≤ sizeLine; decide), fun q nq => ?_⟩
      exact hQ _ q (sm.trans (same_new nq)) (fresh_up sm nq) upd_same
    · obtain ⟨rfl, rfl⟩ := Prod.mk.inj (Option.some.inj hj)
      refine wCl_skip (T.exm 4 0 rfl rfl) (wCl_skip (T.exm 4 1 rfl rfl) (wCl_skip (T.exm 4 2 rfl rfl) (wCl_skip (T.exm 4 3 rfl rfl) (wCl_take (T.exm 4 4 rfl rfl) fun a na => ?_))))
      refine ⟨_, rfl, rfl, rfl, d, _, v, rfl, hd, (by simp [List.lookup]), (by show 2 ≤ sizeLine; decide), fun q nq => ?_⟩
      exact hQ _ q (sm.trans (same_new nq)) (fresh_up sm nq) upd_same
    · obtain ⟨rfl, rfl⟩ := Prod.mk.inj (Option.some.inj hj)
      refine wCl_skip (T.exm 5 0 rfl rfl) (wCl_skip (T.exm 5 1 rfl rfl) (wCl_skip (T.exm 5 2 rfl rfl) (wCl_skip (T.exm 5 3 rfl rfl) (wCl_skip (T.exm 5 4 rfl rfl) (wCl_take (T.exm 5 5 rfl rfl) fun a na => ?_)))))
      refine ⟨_, rfl, rfl, rfl, d, _, v, rfl, hd, (by simp [List.lookup]), (by show 2 ≤ sizeLine; decide), fun q nq => ?_⟩
      exact hQ _ q (sm.trans (same_new nq)) (fresh_up sm nq) upd_same
    · obtain ⟨rfl, rfl⟩ := Prod.mk.inj (Option.some.inj hj)
      refine wCl_skip (T.exm 6 0 rfl rfl) (wCl_skip (T.exm 6 1 rfl rfl) (wCl_skip (T.exm 6 2 rfl rfl) (wCl_skip (T.exm 6 3 rfl rfl) (wCl_skip (T.exm 6 4 rfl rfl) (wCl_skip (T.exm 6 5 rfl rfl) (wCl_take (T.exm 6 6 rfl rfl) fun a na => ?_))))))
      refine ⟨_, rfl, rfl, rfl, d, _, v, rfl, hd, (by simp [List.lookup]), (by show 2 ≤ sizeLine; decide), fun q nq => ?_⟩
      exact hQ _ q (sm.trans (same_new nq)) (fresh_up sm nq) upd_same
    · obtain ⟨rfl, rfl⟩ := Prod.mk.inj (Option.some.inj hj)
      refine wCl_skip (T.exm 7 0 rfl rfl) (wCl_skip (T.exm 7 1 rfl rfl) (wCl_skip (T.exm 7 2 rfl rfl) (wCl_skip (T.exm 7 3 rfl rfl) (wCl_skip (T.exm 7 4 rfl rfl) (wCl_skip (T.exm 7 5 rfl rfl) (wCl_skip (T.exm 7 6 rfl rfl) (wCl_take (T.exm 7 7 rfl rfl) fun a na => ?_)))))))
      refine ⟨_, rfl, rfl, rfl, d, _, v, rfl, hd, (by simp [List.lookup]), (by show 2 ≤ sizeLine; decide), fun q nq => ?_⟩
      exact hQ _ q (sm.trans (same_new nq)) (fresh_up sm nq) upd_same
    · obtain ⟨rfl, rfl⟩ := Prod.mk.inj (Option.some.inj hj)
      refine wCl_skip (T.exm 8 0 rfl rfl) (wCl_skip (T.exm 8 1 rfl rfl) (wCl_skip (T.exm 8 2 rfl rfl) (wCl_skip (T.exm 8 3 rfl rfl) (wCl_skip (T.exm 8 4 rfl rfl) (wCl_skip (T.exm 8 5 rfl rfl) (wCl_skip (T.exm 8 6 rfl rfl) (wCl_skip (T.exm 8 7 rfl rfl) (wCl_take (T.exm 8 8 rfl rfl) fun a na => ?_))))))))
      refine ⟨_, rfl, rfl, rfl, d, _, v, rfl, hd, (by simp [List.lookup]), (by show 2 ≤ sizeLine; decide), fun q nq => ?_⟩
      exact hQ _ q (sm.trans (same_new nq)) (fresh_up sm nq) upd_same
    · obtain ⟨rfl, rfl⟩ := Prod.mk.inj (Option.some.inj hj)
      refine wCl_skip (T.exm 9 0 rfl rfl) (wCl_skip (T.exm 9 1 rfl rfl) (wCl_skip (T.exm 9 2 rfl rfl) (wCl_skip (T.exm 9 3 rfl rfl) (wCl_skip (T.exm 9 4 rfl rfl) (wCl_skip (T.exm 9 5 rfl rfl) (wCl_skip (T.exm 9 6 rfl rfl) (wCl_skip (T.exm 9 7 rfl rfl) (wCl_skip (T.exm 9 8 rfl rfl) (wCl_take (T.exm 9 9 rfl rfl) fun a na => ?_)))))))))
      refine ⟨_, rfl, rfl, rfl, d, _, v, rfl, hd, (by simp [List.lookup]), (by show 2 ≤ sizeLine; decide), fun q nq => ?_⟩
      exact hQ _ q (sm.trans (same_new nq)) (fresh_up sm nq) upd_same

theorem ok_based (T : Tx K mg) : Has P w K mg base CX0 4 "_law_is_based" ["which", "thing"] spBased := by
  obtain ⟨fd, F⟩ := T.c.def_ 22 (d := d_law_is_based) rfl
  obtain ⟨fR, GR, bR, kR, gR⟩ := ok_raise (P := P) (w := w) (base := base) T
  refine ⟨fd, F.ok scBased (fun vs H Q E h => ?_) (fun cdv A outer s H vs Q E hr h => ?_), FunD.bindsN F fun _ _ _ _ _ _ us hl => match us, hl with | [_, _], _ => rfl, F.kp, T.glo 12 rfl⟩
  · obtain ⟨j, v, rfl, _⟩ := h
    rfl
  · refine ⟨_, PSs.nox (pss_cons (ps_try_cl (tb := fun W => tDrop (tCallS (spRaise K) (WE W) (tCons (tVar 0) (tCons (tVar 1) tNil)))) (Wout := fun _ _ _ _ => False) (l := [(.ref (tErr K), none, fun _ _ _ => tRet (tC (.bl true)))]) rfl rfl scBased.nd takes0
        (fun W pn xe tk _ => pss_one (ps_expr (by exact (pe_callS GR (hr.mono (by decide)) rfl gR kR bR (fun σ => passAt tk σ) (by exact (pa_cons (pv 0) (pa_cons (pv 1) pa_nil)))))))
        (.plain ⟨rfl, by decide, .inl (T.glo 50 rfl)⟩ (fun a oe cls d pn hz hf => pss_one (ps_ret pe_bl)) .nil)) (pss_one (ps_ret pe_bl))), ?_⟩
    obtain ⟨j, v, rfl, hj, hQ⟩ := h
    refine ⟨_, rfl, _, rfl, j, v, rfl, hj, fun x f hjx d H' nd sm hd => ?_⟩
    have hx : all36[j]? = some x := by
      have z : (fld10.map (·.1))[j]? = some x := by
        rw [List.getElem?_map, hjx]
        rfl
      unfold all36
      rw [List.getElem?_append_left (List.getElem?_eq_some_iff.mp z).1, z]
    exact wCl_take (T.exmT j hx) fun a na => hQ _ sm
end
end K00

set_option maxHeartbeats 8000000
namespace K00
open PySem PySem.Spec PyProof.Rows L2 V1
open Evl (pss_cut tCut sq_of st_of)
def spLaw (K : PySem.W.Frag) : Sp := fun vs H Q _ => ∃ (a : Addr) (ns : List Int), vs = [.ref a] ∧ SqL K H a (ns.map V.int) ∧ ns.length ≤ 63 ∧ ∀ H', Q (.bl true) H'
abbrev lawSl : List Str := ["script", "hand", "which", "thing", "due", "errors", "k", "marks", "kept", "base", "caught", "j"]
theorem scLaw : FnScope lawSl ["script"] (defScope slaw) := ⟨rfl, rfl, rfl, by decide +kernel, rfl, by decide +kernel, by decide +kernel⟩
section
variable {K : PySem.W.Frag} {mg : Str → Option Value}
theorem kinds_at {v : V} {j : Nat} (hj : j < 36) : ∃ x o, all36[j]? = some x ∧ (kF K v ++ kB K)[j]? = some (He.ga K x, o) := by
  by_cases h : j < 10
  · obtain ⟨p, hp⟩ : ∃ p, fld10[j]? = some p := ⟨_, List.getElem?_eq_getElem (show j < fld10.length from h)⟩
    refine ⟨p.1, some [(p.2, v)], ?_, ?_⟩
    · unfold all36
      rw [List.getElem?_append_left (by rw [List.length_map]; exact h), List.getElem?_map, hp]
      rfl
    · unfold kF
      rw [List.getElem?_append_left (by rw [List.length_map]; exact h), List.getElem?_map, hp]
      rfl
  · obtain ⟨x, hx⟩ : ∃ x, bare26[j - 10]? = some x := ⟨_, List.getElem?_eq_getElem (show j - 10 < 26 by omega)⟩
    have l1 : (fld10.map (·.1)).length = 10 := rfl
    have l2 : (kF K v).length = 10 := rfl
    refine ⟨x, none, ?_, ?_⟩
    · unfold all36
      rw [List.getElem?_append_right (by omega), l1, hx]
    · rw [List.getElem?_append_right (by omega), l2]
      unfold kB
      rw [List.getElem?_map, hx]
      rfl
theorem marks_at (T : Tx K mg) {i : Nat} {x : Str} (hx : all36[i]? = some x) {t : Nat} (ht : t < 36) : (marksOf K (He.ga K x))[t]? = some (decide (i = t)) := by
  obtain ⟨y, hy⟩ : ∃ y, all36[t]? = some y := ⟨_, List.getElem?_eq_getElem (show t < all36.length from ht)⟩
  unfold marksOf
  rw [List.getElem?_map, hy]
  obtain ⟨hE, hA, nd, cA⟩ := T.exs
  obtain ⟨n1, n2⟩ := List.nodup_cons.mp nd
  have a1 : (all36.map (He.ga K))[i]? = some (He.ga K x) := by rw [List.getElem?_map, hx]; rfl
  have a2 : (all36.map (He.ga K))[t]? = some (He.ga K y) := by rw [List.getElem?_map, hy]; rfl
  have li := (List.getElem?_eq_some_iff.mp a1).1
  show some (decide (He.ga K x = He.ga K y)) = _
  by_cases e : i = t
  · subst e
    have exy : x = y := Option.some.inj (hx.symm.trans hy)
    rw [exy, decide_eq_true rfl, decide_eq_true rfl]
  · rw [decide_eq_false e, decide_eq_false fun q => e ((List.getElem?_inj li n2).mp (by rw [a1, a2, q]))]
theorem marks_none (T : Tx K mg) : (marksOf K (tErr K)).any id = false := by
  obtain ⟨hE, hA, nd, cA⟩ := T.exs
  have n1 := (List.nodup_cons.mp nd).1
  rw [List.any_eq_false]
  intro b hb
  unfold marksOf at hb
  obtain ⟨x, hx, rfl⟩ := List.mem_map.mp hb
  have ne : ¬ tErr K = He.ga K x := fun z => n1 (List.mem_map.mpr ⟨x, hx, z.symm⟩)
  simp [ne]
theorem talk_is (T : Tx K mg) {i : Nat} {x : Str} (hx : all36[i]? = some x) {H : Hp} {a : Addr} {o : Option (List (Str × V))} (e : IsEx H a (He.ga K x) o) {σ : L2.St} {te : TE} {Q : VK} (ht : ∀ Q : VK, Q (.ref a) H → te σ H Q) (q : Q (.bl true) H) :
    tCB (rIsiX K) (tCons te (tCons (tC (.ref (tErr K))) tNil)) σ H Q := by
  obtain ⟨hE, hA, nd, cA⟩ := T.exs
  refine ht _ ⟨a, _, o, _, _, _, _, rfl, e, T.one i hx, cA, rfl, rfl, .own _, (T.one i hx).kit hE, ?_⟩
  have z : ((Value.ref (tErr K) :: veB).contains (Value.ref (tErr K))) = true := by
    rw [List.contains_cons]
    simp
  rw [z, Bool.or_true]
  exact q
theorem val_is (T : Tx K mg) {C : Addr} (h : Own K C) {H : Hp} {a : Addr} {o : Option (List (Str × V))} (e : IsEx H a C o) {σ : L2.St} {te : TE} {Q : VK} (ht : ∀ Q : VK, Q (.ref a) H → te σ H Q) (q : Q (.bl true) H) :
    tCB (rIsiX K) (tCons te (tCons (tC (.ty "ValueError")) tNil)) σ H Q := by
  obtain ⟨hE, hA, nd, cA⟩ := T.exs
  have m : PySem.W.kitMeta "ValueError" = true := by decide +kernel
  rcases h with rfl | ⟨y, hy, rfl⟩
  · exact ht _ ⟨a, _, o, _, _, _, _, rfl, e, hE, cA, rfl, rfl, .ty _, hE.kitT m, q⟩
  · exact ht _ ⟨a, _, o, _, _, _, _, rfl, e, hA y hy, cA, rfl, rfl, .ty _, (hA y hy).kitT m, q⟩
end
section
variable {P : Program} {w : World} {K : PySem.W.Frag} {mg : Str → Option Value} {base : Heap}
theorem ok_law (T : Tx K mg) : ∃ fd, (∀ base : Heap, LawOk P w K mg base (He.ga K "law") fd "script" (spLaw K)) ∧ ∀ (s : Shared) (u : Value), BindsTo s fd ⟨[u], []⟩ [("script", u)] := by
  obtain ⟨fd, F⟩ := T.c.def_ 23 (d := dlaw) rfl
  have ml : mg "len" = none := T.free 51 rfl
  have mr : mg "range" = none := T.free 53 rfl
  have mrp : mg "repr" = none := T.free 54 rfl
  have mis : mg "isinstance" = none := T.free 55 rfl
  have man : mg "any" = none := T.free 56 rfl
  have mve : mg "ValueError" = none := T.free 57 rfl
  have bind := FunD.bindsA (ps := ["script"]) F fun _ _ _ _ _ _ us hl => match us, hl with | [_], _ => rfl
  refine ⟨fd, fun base => ?_, fun s u => bind s [u] rfl⟩
  have hHand := ok_hand (P := P) (w := w) (base := base) T
  have hDraw := ok_draw (P := P) (w := w) (base := base) T
  have hThing := ok_thing (P := P) (w := w) (base := base) T
  have hFielded := ok_fielded (P := P) (w := w) (base := base) T
  have hBare := ok_bare (P := P) (w := w) (base := base) T
  have hMarks := ok_marks (P := P) (w := w) (base := base) T
  have hAlien := ok_alien (P := P) (w := w) (base := base) T
  have hFields := ok_fields (P := P) (w := w) (base := base) T
  have hCaught := ok_caught (P := P) (w := w) (base := base) T
  have hBased := ok_based (P := P) (w := w) (base := base) T
  refine lawOk_of (k := 5) F scLaw ⟨rfl, by decide, by decide⟩ fun cdv s H v0 Q hr gd h => ?_
  refine ⟨_, PSs.nox (pss_cons (ps_set (i := 1) scLaw.nd rfl (Or.inl rfl) (pe_has hHand (hr.mono (by decide)) pass0 (pa_cons (pv 0) pa_nil)))
 (pss_cons (ps_set (i := 2) scLaw.nd rfl (Or.inl rfl) (pe_has hDraw (hr.mono (by decide)) pass0 (pa_cons (pv 1) (pa_cons pe_int pa_nil))))
 (pss_cons (ps_set (i := 3) scLaw.nd rfl (Or.inl rfl) (pe_has hThing (hr.mono (by decide)) pass0 (pa_cons (pv 1) pa_nil)))
 (pss_cons (ps_set (i := 4) scLaw.nd rfl (Or.inl rfl) (pe_callB (call_repr gd hr.units) (by rfl) mrp (by decide +kernel) (pa_cons (pv 3) pa_nil)))
 (pss_cons (ps_set (i := 5) scLaw.nd rfl (Or.inl rfl) (pe_op op_cat (pe_has hFielded (hr.mono (by decide)) pass0 (pa_cons (pv 3) pa_nil)) (pe_has0 hBare (hr.mono (by decide)) pass0)))
 (pss_cons (ps_for PassesOwn.never rfl (pi_range1 (by rfl) mr (pa_cons (pe_callB call_len (by rfl) ml PySem.boot_len (pa_cons (pv 5) pa_nil)) pa_nil)) (pg_name (i := 6) scLaw.nd rfl (Or.inl rfl))
 (pss_cons (ps_if (PW.pt (pw_or (pt_not (pt_val (pe_callB call_isiX (by rfl) mis (by decide +kernel) (pa_cons (pe_ix ix_list (pv 5) (pv 6) (fun _ _ => rfl)) (pa_cons (pe_glob (v := .ref (tErr K)) (by rfl) (T.glo 50 rfl) rfl) pa_nil))))) (pw_or (pt_not (pt_val (pe_callB call_isiX (by rfl) mis (by decide +kernel) (pa_cons (pe_ix ix_list (pv 5) (pv 6) (fun _ _ => rfl)) (pa_cons (pe_bltn (v := .ty "ValueError") (by rfl) mve (by decide +kernel) rfl) pa_nil))))) (pw_or1 (pt_val (pe_has hAlien (hr.mono (by decide)) pass0 (pa_cons (pe_ix ix_list (pv 5) (pv 6) (fun _ _ => rfl)) pa_nil)))))))
 (pss_one (ps_ret pe_bl))
 pss_nil)
 (pss_cons (ps_set (i := 7) scLaw.nd rfl (Or.inr rfl) (pe_has hMarks (hr.mono (by decide)) pass0 (pa_cons (pe_ix ix_list (pv 5) (pv 6) (fun _ _ => rfl)) pa_nil)))
 (pss_one (ps_if (pt_cmpR (op_neD hr.units) (pe_lc (own := [("j", 11)]) (g := gName 11) (tt := tB (tOp (rIxL K) (tVar 7) (tVar 11))) (te := tVar 11) (by rfl) scLaw.nd (pi_range1 (by rfl) mr (pa_cons (pe_callB call_len (by rfl) ml PySem.boot_len (pa_cons (pv 7) pa_nil)) pa_nil))
 (blkOk_by (own := [("j", 11)]) (N := lawSl) (sc := defScope slaw) (by decide +kernel)) (fun _ _ _ _ _ => pg_name (i := 11) scLaw.nd rfl (Or.inl rfl)) (fun _ _ _ _ _ => pts_one (pt_val (pe_ix ix_list (pv 7) (pv 11) (fun _ _ => rfl)))) (fun _ _ _ _ _ => (pv 11))) (pe_lst (pa_cons (pv 6) pa_nil)) (nomark _))
 (pss_one (ps_ret pe_bl))
 pss_nil)))))
 (pss_cons (ps_for PassesOwn.never rfl (pi_list (pe_has hFields (hr.mono (by decide)) pass0 (pa_cons (pv 5) pa_nil))) (pg_name (i := 8) scLaw.nd rfl (Or.inl rfl))
 (pss_one (ps_if (pt_cmpR op_ne (pe_callB (call_repr gd hr.units) (by rfl) mrp (by decide +kernel) (pa_cons (pv 8) pa_nil)) (pv 4) (nomark _))
 (pss_one (ps_ret pe_bl))
 pss_nil)))
 (pss_cons (ps_set (i := 9) scLaw.nd rfl (Or.inl rfl) (pe_mk0 PySem.F.excBase_ValueError (excQ T 107 rfl).1 (T.glo 50 rfl) (excQ T 107 rfl).2 (by rfl)))
 (pss_cons (ps_if (PW.pt (pw_or (pt_not (pt_val (pe_callB call_isiX (by rfl) mis (by decide +kernel) (pa_cons (pv 9) (pa_cons (pe_bltn (v := .ty "ValueError") (by rfl) mve (by decide +kernel) rfl) pa_nil))))) (pw_or (pt_val (pe_has hAlien (hr.mono (by decide)) pass0 (pa_cons (pv 9) pa_nil))) (pw_or1 (pt_val (pe_callB (cr_any rfl) (by rfl) man (by decide +kernel) (pa_cons (pe_has hMarks (hr.mono (by decide)) pass0 (pa_cons (pv 9) pa_nil)) pa_nil)))))))
 (pss_one (ps_ret pe_bl))
 pss_nil)
 (pss_cons (ps_set (i := 10) scLaw.nd rfl (Or.inl rfl) (pe_has hCaught (hr.mono (by decide)) pass0 (pa_cons (pv 2) (pa_cons (pv 3) pa_nil))))
 (pss_one (ps_ret (pe_and (pe_cmpR op_eq (pe_ix ix_tup (pv 10) pe_int (fun _ _ => rfl)) (pv 2) (nomark _)) (pe_and (pe_cmpR op_eq (pe_callB (call_repr gd hr.units) (by rfl) mrp (by decide +kernel) (pa_cons (pe_ix ix_tup (pv 10) pe_int (fun _ _ => rfl)) pa_nil)) (pv 4) (nomark _)) (pe_one (pe_has hBased (hr.mono (by decide)) pass0 (pa_cons (pv 2) (pa_cons (pv 3) pa_nil)))))))))))))))))), ?_⟩
  obtain ⟨a, ns, hv, hS, hl, hQ⟩ := h
  obtain rfl : v0 = .ref a := by simpa using hv
  refine ⟨_, rfl, a, ns, rfl, hS, hl, fun H1 h s1 n1 hd => ?_⟩
  refine ⟨_, rfl, h, 10, rfl, hd, by decide, by decide, fun H2 r hd2 e2 r0 r1 => ?_⟩
  obtain ⟨wh, rfl⟩ := Int.eq_ofNat_of_zero_le r0
  refine ⟨_, rfl, h, rfl, hd2, fun H3 v d hd3 s3 q3 g3 => ?_⟩
  have gdp : d.depth ≤ 60 := Nat.le_trans g3.dp (by decide)
  have gln : d.shown.length ≤ sizeLine := Nat.le_of_lt (small1000 g3.ln)
  have q3' : Dq H3 v d := Dq.same same_delH d v q3
  refine ⟨_, rfl, v, d, rfl, q3', g3.sh, gdp, gln, ?_⟩
  refine ⟨_, rfl, v, rfl, fun H4 p4 us4 s4 n4 e4 x4 => ⟨rfl, fun H5 p5 us5 s5 n5 e5 x5 => cat_go (s5 _ _ e4) e5 (by rw [x4.len, x5.len]; show 10 + 26 ≤ 1000; decide) fun p6 H6 s6 n6 e6 => ?_⟩⟩
  have x6 := ((x4.same s5).app x5).same s6
  have len6 : (us4 ++ us5).length = 36 := by rw [x6.len]; rfl
  have q6 : Dq H6 v d := Dq.same ((s4.trans s5).trans s6) d v q3'
  generalize us4 ++ us5 = us at e6 x6 len6
  -- each error's class
  refine ⟨_, rfl, .ref p6, 36, rfl, .inl ⟨us, sq_of e6, len6.symm⟩, 36, rfl, by decide, by decide, for_range (lo := 0) (n := 36) (fun i σ H' => ∃ kV mV, σ = [some (.ref a), some (.ref h), some (.int wh), some v, some (.str d.shown), some (.ref p6), kV, mV, none, none, none, none] ∧ Same H6 H') ?_ ?_ ?_⟩
  · exact ⟨none, none, rfl, Same.refl _⟩
  · rintro i σ H' hi ⟨kV, mV, rfl, sm⟩
    obtain ⟨x, o, hx, hk⟩ := kinds_at (K := K) (v := v) hi
    obtain ⟨b, hb, eb⟩ := x6.get hk
    have ex := eb.same sm
    have own : Own K (He.ga K x) := .inr ⟨x, List.mem_of_getElem? hx, rfl⟩
    have at_ : atI us (0 + (i : Nat)) = some (.ref b) := by rw [Int.zero_add]; exact atI_nat hb
    have elt : ∀ {mV' : Option V} (Q : VK), Q (.ref b) H' → tOp (rIxL K) (tVar 5) (tVar 6) [some (.ref a), some (.ref h), some (.int wh), some v, some (.str d.shown), some (.ref p6), some (.int (0 + (i : Nat))), mV', none, none, none, none] H' Q :=
      fun Q q => ⟨_, rfl, _, rfl, p6, us, _, _, rfl, rfl, sq_of (sm _ _ e6), at_, q⟩
    refine talk_is T hx ex elt ⟨true, rfl, iteF ?_⟩
    refine val_is T own ex elt ⟨true, rfl, iteF ?_⟩
    refine elt _ ⟨b, _, o, rfl, ex, own, false, rfl, iteF ?_⟩
    refine elt _ ⟨b, _, o, rfl, ex, own, fun H7 p7 s7 n7 e7 => ?_⟩
    -- the marks
    refine ⟨_, rfl, .ref p7, 36, rfl, .inl ⟨_, sq_of e7, rfl⟩, 36, rfl, by decide, by decide, fun D nD => lc_range (lo := 0) (n := 36) (fun t H8 => Same H7 (delH H8 D) ∧ H8 D = some (.lst (if i < t then [.int (0 + (i : Nat))] else []))) ?_ ?_ ?_⟩
    · refine ⟨?_, upd_same⟩
      rw [delH_new nD]
      exact Same.refl _
    · rintro t H8 ht ⟨sm8, eD⟩
      refine ⟨rfl, _, rfl, _, rfl, p7, _, _, .bl (decide (i = t)), rfl, rfl, sq_of (same_delH _ _ (sm8 _ _ e7)), ?_, _, rfl, ?_⟩
      · rw [Int.zero_add]
        refine atI_nat ?_
        rw [List.getElem?_map, marks_at T hx ht]
        rfl
      · refine ite2 (fun c => ?_) (fun c => ?_)
        · have c' := of_decide_eq_true c
          subst c'
          rw [if_neg (Nat.lt_irrefl _)] at eD
          refine ⟨_, rfl, [], eD, by decide, ?_, ?_⟩
          · rw [delH_upd]
            exact sm8
          · rw [upd_same, if_pos (Nat.lt_succ_self _)]
            rfl
        · have c' : ¬ i = t := fun z => c (decide_eq_true z)
          refine ⟨sm8, ?_⟩
          rw [eD]
          by_cases l : i < t
          · rw [if_pos l, if_pos (by omega)]
          · rw [if_neg l, if_neg (by omega)]
    · rintro H8 ⟨sm8, eD⟩
      rw [if_pos hi] at eD
      refine ⟨_, rfl, (by show 1 ≤ sizeLine; decide), fun p9 n9 => ?_⟩
      have s9 := same_new (o := .lst [.int (0 + (i : Nat))]) n9
      refine ⟨.list [.int (0 + (i : Nat))], .list [.int (0 + (i : Nat))], .lst (sq_of (s9 _ _ eD)) (.cons (.int _) .nil), .lst (sq_of upd_same) (.cons (.int _) .nil), rfl, rfl, _, rfl, ?_⟩
      have ev : PyData.eqv (.list [.int (0 + (i : Nat))]) (.list [.int (0 + (i : Nat))]) = true := by
        apply SeqAt.eqv_refl
        rfl
      rw [ev]
      refine iteF ?_
      exact ⟨_, _, rfl, fun b' o' e' => s9 _ _ (same_delH _ _ (sm8 _ _ (s7 _ _ (sm _ _ e'))))⟩
  · rintro σ H' ⟨kV, mV, rfl, sm⟩
    -- the fields
    refine ⟨_, rfl, p6, us, v, kB K, rfl, sm _ _ e6, x6.same sm, fun H8 q8 s8 n8 e8 => ⟨q8, rfl, ⟨_, sq_of e8⟩, for_list (K := K) (a := q8) (xs := List.replicate 10 v) (fun i σ H9 => ∃ kp, σ = [some (.ref a), some (.ref h), some (.int wh), some v, some (.str d.shown), some (.ref p6), kV, mV, kp, none, none, none] ∧ Same H8 H9) ?_ ?_ ?_ ?_⟩⟩
    · exact ⟨none, rfl, Same.refl _⟩
    · rintro i σ H9 _ ⟨kp, _, s9⟩
      exact sq_of (s9 _ _ e8)
    · rintro i x σ H9 hx ⟨kp, rfl, s9⟩
      obtain rfl : x = v := by
        have z := List.mem_of_getElem? hx
        exact (List.mem_replicate.mp z).2
      refine ⟨_, rfl, x, d, rfl, Dq.same ((sm.trans s8).trans s9) d x q6, g3.sh, gdp, gln, _, rfl, rfl, _, rfl, iteNS rfl ?_⟩
      exact ⟨_, rfl, s9⟩
    · rintro σ H9 ⟨kp, rfl, s9⟩
      -- the base class
      refine fun b nb => ?_
      have sb := same_new (o := ExO (.ref (tErr K)) b) nb
      have exb : IsEx (upd H9 b (ExO (.ref (tErr K)) b)) b (tErr K) none := upd_same
      have ownb : Own K (tErr K) := .inl rfl
      refine val_is (te := tVar 9) T ownb exb (fun Q q => ⟨.ref b, (by rfl), q⟩) ⟨true, rfl, iteF ?_⟩
      refine ⟨_, rfl, b, _, none, rfl, exb, ownb, false, rfl, iteF ?_⟩
      refine ⟨_, rfl, b, _, none, rfl, exb, ownb, fun H11 p11 s11 n11 e11 => ⟨p11, marksOf K (tErr K), rfl, sq_of e11, ?_⟩⟩
      rw [marks_none T]
      refine ⟨false, rfl, iteF ?_⟩
      -- caught
      refine ⟨_, rfl, _, rfl, wh, v, rfl, by omega, fun H12 q12 s12 n12 e12 => ?_⟩
      have q12' : Dq H12 v d := Dq.same (((((sm.trans s8).trans s9).trans sb).trans s11).trans s12) d v q6
      refine ⟨_, rfl, q12, _, 0, .int wh, rfl, rfl, st_of e12, rfl, _, rfl, rfl, _, rfl, ite2 (fun _ => ?_) (fun z => absurd (decide_eq_true rfl) z)⟩
      refine ⟨_, rfl, q12, _, 1, v, rfl, rfl, st_of e12, rfl, v, d, rfl, q12', g3.sh, gdp, gln, _, rfl, rfl, _, rfl, ite2 (fun _ => ?_) (fun z => absurd (decide_eq_true rfl) z)⟩
      exact ⟨_, rfl, _, rfl, wh, v, rfl, by omega, fun H' _ => hQ H'⟩
end
end K00

set_option maxHeartbeats 0
open PySem PySem.W PySem.Calls PyProof.Rows
theorem PySem.Challenge.cw_turnedtalk_k00_errors_keep_what_is_passe_holds : PySem.Challenge.rw_turnedtalk_k00_errors_keep_what_is_passe.Holds := by
  w_on; o_law
  refine HandSHeadRun.head_any (r := OpenLaw.row PySem.Challenge.rw_turnedtalk_k00_errors_keep_what_is_passe) (q := view (OpenLaw.row PySem.Challenge.rw_turnedtalk_k00_errors_keep_what_is_passe).prog [52]) (H := K00.hk) (ob := K00.ob) (M := 60000) (loose := K00.names)
    (d := HandSHeadRun.topDef (OpenLaw.row PySem.Challenge.rw_turnedtalk_k00_errors_keep_what_is_passe).prog 52) (kwd := []) K00.ob_eq
    (by kernel_rfl) (fun s => by kernel_rfl) K00.run (by kernel_rfl) (by kernel_rfl) (by kernel_rfl) (by rfl) (by first | assumption | decide +kernel) (by decide +kernel) ⟨rfl, rfl, rfl, rfl, rfl, by decide +kernel⟩ ?hw ?hc
  case hw => w_witness2
  case hc =>
    refine V1.walk_law (l := PySem.Challenge.rw_turnedtalk_k00_errors_keep_what_is_passe) (n := 63) (x := "script") rfl (by decide) (by kernel_rfl) ?F
    intro w mg fa h Y G hmg0
    obtain ⟨K, KX, c, ex⟩ := Y
    have hmg : mg ("law" : PySem.Str) = some (.ref fa) := by
      have e : (HandSHeadRun.topDef (OpenLaw.row PySem.Challenge.rw_turnedtalk_k00_errors_keep_what_is_passe).prog 52).name = ("law" : PySem.Str) := by kernel_rfl
      rw [← e]
      exact hmg0
    have T : K00.Tx K mg := ⟨c, ex, h, KX, G⟩
    cases hmg.symm.trans (T.glo 13 rfl)
    obtain ⟨fd, ok, bind⟩ := K00.ok_law (P := (PySem.Challenge.rw_turnedtalk_k00_errors_keep_what_is_passe).prog) (w := w) T
    exact ⟨K, fd, K00.spLaw K, KX, bind, fun H a ns hl _ hS => ⟨a, ns, rfl, hS, hl, fun _ => rfl⟩, fun base _ _ => ok base⟩

