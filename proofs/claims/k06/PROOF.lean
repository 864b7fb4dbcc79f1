import PyProof.Rows.All
import Wide.All
import OpenK.AllK
import Wide.FinOn
import HandS.ForMost
import HandS.Exc
import HandS.ExcOwn
import HandS.ExcValue
import HandS.ExcInit
import HandS.ExcField
import HandS.ExcIs
import HandS.IsInst
import HandS.DictComp
import KE.KExcIs
import KE.KIsAll
import PyProof.ReprRoads
import PyProof.ExcFactsAll.LookupError
import PyProof.ExcFactsAll.RuntimeError
import PyProof.ExcFactsAll.ValueError
import PyProof.EqAt
import PyProof.EqKinds
import PyProof.FactsAll.subtypes_3
import PyProof.FactsAll.subtypes_4
import PyProof.FactsAll.dict_1
import PyProof.CallFns
import PyProof.Draws
import PyProof.EnumMake
import PyProof.TupleIter
import HandS.AnyAll
import HandS.EndBits
import HandS.Lambda
import KE.KLam
import HandS.Walk
import HandS.Style
import HandS.TupAny
import HandS.More
import HandS.Deep
import PyProof.Rows.IntBool
import PyProof.CallStr
import PyProof.ReprBulk
import HandS.TryOnly
import PyProof.Rows.StrMeet
import PyProof.Rows.ReprOcc
import HandS.Call
import PyProof.StrBlock2
import KE.KDictPairs
import PyProof.DictUpdate
import KE.GoesZip
import PyProof.GenCompD
import HandS.Zip
import KE.KDictZip
import HandS.Flow
import HandS.WordsExc
import KE.GoesMore
import KE.GoesNew
import KE.GoesEnum
import KE.KDictDisplayH
import HandS.Dict
import HandS.SortRule
import HandS.Conv
import HandS.Sort
import KE.KRevSl
import HandS.TupLen
import PySem.Challenge.RW_pawldials_k06_standings_near
set_option Elab.async false
set_option maxRecDepth 100000
/-! Own rules: errors that are held as values, and data of any depth with dicts in it. -/
namespace Pk
open PySem L2 PySem.Spec PyProof.Rows

theorem sameNew {H : Hp} {p : Addr} (h : H p = none) (o : HO) : Same H (upd H p o) := fun b u q => by rw [upd_ne (ne_of_none q h)]; exact q

/-! ### errors as values -/
/-- at a: an error of the class at C, with these fields -/
def Exq (H : Hp) (a C : Addr) (fs : List (Str × V)) : Prop :=
  (fs = [] ∧ H a = some (ExO (.ref C) a)) ∨ ∃ d, H a = some (exo a C (some d)) ∧ H d = some (exd d fs)
theorem Exq.same {H H' : Hp} {a C : Addr} {fs : List (Str × V)} (s : Same H H') (e : Exq H a C fs) : Exq H' a C fs := by
  rcases e with ⟨h, e⟩ | ⟨d, e, f⟩
  · exact .inl ⟨h, s _ _ e⟩
  · exact .inr ⟨d, s _ _ e, s _ _ f⟩
section
variable {X : Cx}
/-- C(), a class without an own __init__ -/
theorem pe_exq0 {C : Addr} {bmB : List Value} {B newId initId : String} {x : Str} {p pos : Pos} (F : ExcBaseFacts B newId initId bmB) (q : PySem.W.excIn X.K C bmB newId = true) (gC : X.mg x = some (.ref C)) (kC : PySem.W.keepIn X.K (.ref C) = true) (hg : Gl X x)
    (hdg : (x == ("__debug__" : Str)) = false := by decide) :
    PE X (.Call (.Name x p) [] [] pos) (fun σ H Q => ∀ a H', Same H H' → Exq H' a C [] → Q (.ref a) H') := by
  refine ⟨fun pz s σ H Q I h => ?_⟩
  refine wpAny_Call_Name_kw (ld_glob I hg gC ?_ hdg)
  refine PySem.W.callWith_K0 I.kIn kC ?_
  show wpAny _ _ (call (.ref C) []) _ _ _
  obtain ⟨bm, N, n0, qn, bs, hdct, sn, sub, ab, col, dd, k0, k1, k2, k3, k5, mN, hcl0, hN, hni, TT⟩ := exc_obj I.kIn q
  refine wpAny_call_exc_subT F TT hcl0 hN hni (fun h' a hm => ?_) (by show 0 ≤ sizeLine; omega)
  have hn : H a = none := I.hok.gone hm.new
  obtain ⟨t, htt, _, _⟩ := hm.there
  exact ⟨.ref a, upd H a (ExO (.ref C) a), I.laidN hm.keeps hm.new hn (exO_ok htt ⟨rfl, rfl⟩ rfl rfl rfl (show 4 < 6 by decide)), rfl, h a _ (sameNew hn _) (.inl ⟨rfl, upd_same⟩)⟩
/-- C(e, ..), C's own __init__ keeping sp; the error is the value -/
def tMkV (C : Addr) (sp : Sp) (ta : TA) : TE := fun σ H Q => ta σ H fun vs Ha => vs.length ≤ 1000 ∧ ∀ a, Ha a = none → sp (.ref a :: vs) (upd Ha a (exo a C none)) (fun v H2 => v = .non ∧ Q (.ref a) H2) (fun _ _ _ => False)
theorem pe_mkV {e : Expr} {es : List Expr} {ta : TA} {p pos : Pos} {CX : CXT} {x : Str} {C fI : Addr} {k : Nat} {fd : FuncData} {ps : List Str} {sp : Sp} (TT : OexC X.K C) (iC : PySem.W.findIn X.K (.ref C) "__init__" = some (some (.ref fI))) (tI : PySem.W.typeIn X.K (.ref fI) = some (.type "function"))
    (F1 : FnOk X.prog X.w X.K X.mg X.base CX k fI fd ps sp) (hr : Room (k + 1) X.A) (hb : Binds X.K fd ps []) (hx : Passes CX X (fun _ _ _ => False)) (hg : Gl X x) (hm : X.mg x = some (.ref C)) (ha : PA X (e :: es) ta)
    (hdg : (x == ("__debug__" : Str)) = false := by decide) (he : starEach (e :: es) X.env = (false, eval e X.env) :: starEach es X.env := by rfl) (hpz : (backTo pos (starEach es X.env)).any (·.1) = false := by rfl) :
    PE X (.Call (.Name x p) (e :: es) [] pos) (tMkV C sp ta) := by
  refine ⟨fun pz s σ H Q I h => ?_⟩
  obtain ⟨n0, q, N, bs, bm, sn, sub, ab, col, dd, k0, k1, k2, k3, k5, hcl0, hbq⟩ := TT.cls
  refine wpAny_Call_Name_kw (ld_glob I hg hm ?_ hdg)
  refine PySem.W.callWith_K (h₀ := X.base) I.ok.mod.kin TT.kC (thn (ha.run pos pz s σ H _ I h) fun ua sa ⟨vs, Ha, Ia, ra, hy, qa⟩ => ⟨Ia.kIn, ?_⟩) he hpz
  show wpAny _ _ (call (.ref C) ua) _ _ _
  obtain ⟨hq, g, dw, tz, oz⟩ := sa
  have hsa : hq.objs.size ≤ hq.objs.size + 1 := Nat.le_succ _
  have hn : Ha (hq.objs.size + 1) = none := Ia.hok.fresh hsa
  have hf0 := qa (hq.objs.size + 1) hn
  have kq : ∀ b o, hq.get? b = some o → ((hq.push (PySem.W.kdv_tup ua)).push (PySem.HandSPX.excO C hq.objs.size)).get? b = some o := fun b o e => Heap.get?_push_of_some _ (Heap.get?_push_of_some _ e)
  have hgq : ((hq.push (PySem.W.kdv_tup ua)).push (PySem.HandSPX.excO C hq.objs.size)).get? (hq.objs.size + 1) = some (PySem.HandSPX.excO C hq.objs.size) := by heap_get
  have Ib : Inv X pz σ (upd Ha (hq.objs.size + 1) (exo (hq.objs.size + 1) C none)) ⟨(hq.push (PySem.W.kdv_tup ua)).push (PySem.HandSPX.excO C hq.objs.size), g, dw, tz, oz⟩ :=
    Ia.laid (t' := tz) (a := hq.objs.size + 1) (o := exo (hq.objs.size + 1) C none) (h' := (hq.push (PySem.W.kdv_tup ua)).push (PySem.HandSPX.excO C hq.objs.size)) kq hsa (exo_ok hgq)
  have rb : Vals (V.ref (hq.objs.size + 1) :: vs) (Value.ref (hq.objs.size + 1) :: ua) := .cons rfl ra
  have hl : (Value.ref (hq.objs.size + 1) :: ua).length = ps.length := by
    have e := rb.length
    rw [F1.len _ _ _ _ hf0] at e
    exact e.symm
  have hua : ua.length ≤ sizeLine := by
    rw [← Paired.length ra, sizeLine_eq]
    omega
  have b := hb ⟨(hq.push (PySem.W.kdv_tup ua)).push (PySem.HandSPX.excO C hq.objs.size), g, dw, tz, oz⟩ (Value.ref (hq.objs.size + 1) :: ua) Ib.kIn (by rw [List.append_nil]; exact hl)
  rw [List.append_nil] at b
  refine wpAny_call (PySem.HandSPX.call_own F.excBase_ValueError (fun Y => PySem.HandSPX.refsVE_contains Y bm hbq) (Ia.kIn _ _ hcl0) (PySem.W.looks_findIn Ia.kIn iC) (fun self => PySem.W.bind_fn Ia.kIn self tI) hua
    (codeAny_mono (F1.run _ X.stack _ _ ⟨Value.ref (hq.objs.size + 1) :: ua, []⟩ (Value.ref (hq.objs.size + 1) :: ua) _ _ (fun _ _ _ => False) (hr.make C ua []) (Ib.env0.make C ua []) b rb hf0) fun r s' hw' => ?_))
  cases r with
  | error ee => exact hx pz σ _ _ ee s' Ib hw'
  | ok fl =>
    cases fl with
    | ret u =>
      obtain ⟨v, H', Ic, rz, ev, q3⟩ := Ib.after hw'
      subst ev
      exact ⟨rz, ⟨V.ref (hq.objs.size + 1), H', Ic, rfl, q3⟩⟩
    | next => exact hw'.elim
    | brk => exact hw'.elim
    | cont => exact hw'.elim
/-- e.f of an error that is held as a value -/
theorem pe_exf {e : Expr} {te : TE} {pos : Pos} {n : Str} (he : PE X e te) (hb : attributeBase e n X.env (eval e X.env) = eval e X.env := by rfl) :
    PE X (.Attribute e n pos) (fun σ H Q => te σ H fun x Ha => ∃ (a C : Addr) (fs : List (Str × V)) (v : V), x = .ref a ∧ Exq Ha a C fs ∧ XfC X.K C ∧ PySem.W.findIn X.K (.ref C) n = some none ∧ fs.lookup n = some v ∧ Q v Ha) := by
  refine ⟨fun pz s σ H Q I h => ?_⟩
  refine attr_of hb (thn (he.run pz s σ H _ I h) fun u sa hw => ?_)
  obtain ⟨x, Ha, Ia, ry, a, C, fs, v, ex, ea, TT, hnn, l, q⟩ := hw
  subst ex
  cases (show u = .ref a from ry)
  rcases ea with ⟨hf, _⟩ | ⟨dd, e1, e2⟩
  · subst hf
    cases l
  · obtain ⟨t1, ha⟩ := exo_at Ia.hok e1
    obtain ⟨mq, hnq, hr⟩ := exd_at Ia.hok e2
    obtain ⟨oq, ho, hl⟩ := lookIn_ns hnq
    obtain ⟨u, hu, ru⟩ := RelO.some_of (v := v) (o := mq n) (by rw [← l]; exact hr n)
    have J : PySem.W.InstAt sa.heap a { cls := .ref C, dict := some dd, data := .fields #[.ref t1, .none, .none, .none, .bool false, .none] } C (some oq) := ⟨ha, rfl, rfl, ho⟩
    exact HandSPX.exc_get Ia.kIn J TT.ga TT.gg TT.exC (PySem.W.findObj_own TT.hdC hnn rfl (by rw [hl, hu])) (handed_of ru) ⟨v, Ha, Ia.tok _, ru, q⟩
/-- what isinstance asks of such an error -/
theorem Exq.kit {pz : List (Addr × Obj)} {σ : L2.St} {H : Hp} {s : Shared} {a C : Addr} {fs : List (Str × V)} (I : L2.Inv X pz σ H s) (e : Exq H a C fs) (TT : ExcC X.K C) : ∃ P : Heap → Prop, PySem.W.KitX X.K (.ref a) (.ref C) P ∧ P s.heap := by
  have hcl : (PySem.W.clsIn X.K C).isSome = true := by
    obtain ⟨cd, hc, _⟩ := PySem.W.any_some TT.hd
    rw [hc]
    rfl
  rcases e with ⟨_, e⟩ | ⟨dd, e1, e2⟩
  · obtain ⟨⟨oe, vs, ho, hy, hd, _⟩, _, _⟩ := I.hok a _ e
    refine ⟨_, PySem.W.kitx_exc (ox := oe) (od := none) hcl TT.hg TT.hk TT.hs TT.ha TT.hn TT.ht TT.hm, ?_⟩
    obtain ⟨oc, oq, oda, osl⟩ := oe
    obtain ⟨h1, h2⟩ := hy
    dsimp only at h1 h2 hd
    subst h1 h2 hd
    exact ⟨ho, rfl, rfl, trivial⟩
  · obtain ⟨t1, ha⟩ := exo_at I.hok e1
    obtain ⟨mq, hnq, hr⟩ := exd_at I.hok e2
    obtain ⟨oq, ho, hl⟩ := lookIn_ns hnq
    exact ⟨_, PySem.W.kitx_exc (ox := { cls := .ref C, dict := some dd, data := .fields #[.ref t1, .none, .none, .none, .bool false, .none] }) (od := some oq) hcl TT.hg TT.hk TT.hs TT.ha TT.hn TT.ht TT.hm, ⟨ha, rfl, rfl, ho⟩⟩
/-- isinstance(e, c) -/
theorem call_isQ : CallR X (.builtin "isinstance") (fun xs H Q => ∃ (a C : Addr) (fs : List (Str × V)) (c : V) (u : Value) (b : Bool), xs = [.ref a, c] ∧ Exq H a C fs ∧ ExcC X.K C ∧ ClsV c u ∧ PySem.W.kitOne X.K (.ref C) u = some b ∧ Q (.bl b) H) := by
  intro pz s σ H xs ua Q I r h
  obtain ⟨a, C, fs, c, u, b, rfl, ea, TT, k, e, q⟩ := h
  obtain ⟨u1, u2, rfl, ra, rb⟩ := vals2 r
  have e2 := k.eq rb
  subst e2
  cases (show u1 = Value.ref a from ra)
  obtain ⟨P, Z, p⟩ := ea.kit I TT
  exact PySem.W.kia_one Z I.kIn p e (fun z => nomatch z) fun tz => ⟨.bl b, H, I.tok tz, rfl, q⟩
/-- isinstance(e, (c1, c2, ..)) -/
theorem call_isQT : CallR X (.builtin "isinstance") (fun xs H Q => ∃ (a C : Addr) (fs : List (Str × V)) (tp : Addr) (cs : List V) (ws : List Value) (b : Bool), xs = [.ref a, .ref tp] ∧ Exq H a C fs ∧ ExcC X.K C ∧ H tp = some (.tup cs) ∧ Paired ClsV cs ws ∧ PySem.W.kitAny X.K (.ref C) ws = some b ∧ Q (.bl b) H) := by
  intro pz s σ H xs ua Q I r h
  obtain ⟨a, C, fs, tp, cs, ws, b, rfl, ea, TT, htp, k, e, q⟩ := h
  obtain ⟨u1, u2, rfl, ra, rb⟩ := vals2 r
  cases (show u2 = Value.ref tp from rb)
  cases (show u1 = Value.ref a from ra)
  obtain ⟨P, Z, p⟩ := ea.kit I TT
  obtain ⟨_, itz, rz, o, h1, h2, n, h3⟩ := (show ObjOk X.prog X.w H s.heap tp (.tup cs) from I.hok tp _ htp)
  have e3 := ClsV.all k rz
  subst e3
  obtain ⟨oc, oq, dt, sl⟩ := o
  simp only at h2 h3
  subst h2 h3
  exact PySem.W.kia_tup Z I.kIn p h1 e (fun z => nomatch z) fun tz => ⟨.bl b, H, I.tok tz, rfl, q⟩
end
end Pk
namespace Pk
open PySem L2 PySem.Spec PyProof.Rows

/-! ### data of any depth in the heap -/
theorem _root_.L2.Rd.map {H H' : Hp} {a : Addr} {u : HO} (f : ∀ o, H a = some o → H' a = some o) : Rd H a u → Rd H' a u
  | .inl h => .inl (f _ h)
  | .inr ⟨o, h⟩ => .inr ⟨o, f _ h⟩

/-- a key as data -/
def keyD : Key → PyData
  | .inl i => .int i
  | .inr x => .str x
mutual
/-- v is this data -/
inductive Tr (H : Hp) : V → PyData → Prop
  | non : Tr H .non .none
  | bl (b : Bool) : Tr H (.bl b) (.bool b)
  | int (i : Int) : Tr H (.int i) (.int i)
  | str (x : Str) : Tr H (.str x) (.str x)
  | lst {a : Addr} {xs : List V} {ds : List PyData} : H a = some (.lst xs) → TrAll H xs ds → Tr H (.ref a) (.list ds)
  | tup {a : Addr} {xs : List V} {ds : List PyData} : Rd H a (.tup xs) → TrAll H xs ds → Tr H (.ref a) (.tuple ds)
  | dct {a : Addr} {kvs : List (Key × V)} {es : List (PyData × PyData)} : H a = some (.dK kvs) → (kvs.map (·.1)).Nodup → es.map (·.1) = kvs.map (fun p => keyD p.1) → TrAll H (kvs.map (·.2)) (es.map (·.2)) → Tr H (.ref a) (.dict es)
inductive TrAll (H : Hp) : List V → List PyData → Prop
  | nil : TrAll H [] []
  | cons {v : V} {vs : List V} {d : PyData} {ds : List PyData} : Tr H v d → TrAll H vs ds → TrAll H (v :: vs) (d :: ds)
end
mutual
theorem Tr.same {H H' : Hp} (s : Same H H') : ∀ {v : V} {d : PyData}, Tr H v d → Tr H' v d
  | _, _, .non => .non
  | _, _, .bl b => .bl b
  | _, _, .int i => .int i
  | _, _, .str x => .str x
  | _, _, .lst h a => .lst (s _ _ h) (TrAll.same s a)
  | _, _, .tup h a => .tup (h.map (s _)) (TrAll.same s a)
  | _, _, .dct h n e a => .dct (s _ _ h) n e (TrAll.same s a)
theorem TrAll.same {H H' : Hp} (s : Same H H') : ∀ {vs : List V} {ds : List PyData}, TrAll H vs ds → TrAll H' vs ds
  | _, _, .nil => .nil
  | _, _, .cons h t => .cons (Tr.same s h) (TrAll.same s t)
end
theorem TrAll.length {H : Hp} : ∀ {vs : List V} {ds : List PyData}, TrAll H vs ds → vs.length = ds.length
  | _, _, .nil => rfl
  | _, _, .cons _ t => by rw [List.length_cons, List.length_cons, TrAll.length t]
theorem TrAll.get {H : Hp} : ∀ {vs : List V} {ds : List PyData} {i : Nat} {v : V}, TrAll H vs ds → vs[i]? = some v → ∃ d, ds[i]? = some d ∧ Tr H v d
  | _, _, i, v, .nil, h => by simp at h
  | _, _, 0, v, .cons h t, e => by
    cases (show some _ = some v from e)
    exact ⟨_, rfl, h⟩
  | _, _, i + 1, v, .cons h t, e => by
    exact TrAll.get (i := i) t e
theorem TrAll.snoc {H : Hp} : ∀ {vs : List V} {ds : List PyData} {v : V} {d : PyData}, TrAll H vs ds → Tr H v d → TrAll H (vs ++ [v]) (ds ++ [d])
  | _, _, _, _, .nil, one => .cons one .nil
  | _, _, _, _, .cons h t, g => .cons h (TrAll.snoc t g)
theorem TrAll.append {H : Hp} : ∀ {vs ws : List V} {ds es : List PyData}, TrAll H vs ds → TrAll H ws es → TrAll H (vs ++ ws) (ds ++ es)
  | _, _, _, _, .nil, g => g
  | _, _, _, _, .cons h t, g => .cons h (TrAll.append t g)
theorem Tr.isList {H : Hp} {v : V} {ds : List PyData} (h : Tr H v (.list ds)) : ∃ a xs, v = .ref a ∧ H a = some (.lst xs) ∧ TrAll H xs ds := by
  cases h with
  | lst h t => exact ⟨_, _, rfl, h, t⟩
theorem Tr.isTup {H : Hp} {v : V} {ds : List PyData} (h : Tr H v (.tuple ds)) : ∃ a xs, v = .ref a ∧ Rd H a (.tup xs) ∧ TrAll H xs ds := by
  cases h with
  | tup h t => exact ⟨_, _, rfl, h, t⟩
theorem TrAll.rep {H : Hp} {v : V} {d : PyData} (h : Tr H v d) : ∀ n : Nat, TrAll H (List.replicate n v) (List.replicate n d)
  | 0 => .nil
  | n + 1 => .cons h (TrAll.rep h n)
/-- the keys of a dict, read -/
theorem reads_keys {P : Program} {w : World} {h : Heap} : ∀ {es : List DictEntry} {kvs : List (Key × V)} {vs : List (Key × Value)}, Pairs (mixKind P w) es vs → KV kvs vs → ReadsAll h (es.map (·.key)) (kvs.map (fun p => keyD p.1)) []
  | _, _, _, .nil, .nil => .nil
  | _, _, _, .cons hk hv t, .cons r rs => by
    have ih := reads_keys (h := h) t rs
    simp only [List.map_cons]
    refine ReadsAll.cons (as := []) (bs := []) ?_ ih
    rw [← r.1] at hk
    rcases keyIs_shape hk with ⟨i, u, e1, e2⟩ | ⟨x, u, e1, e2⟩
    · rw [e1, e2]
      exact Reads.int i u
    · rw [e1, e2]
      exact Reads.str x u
theorem vals_of_pairs {P : Program} {w : World} : ∀ {es : List DictEntry} {kvs : List (Key × V)} {vs : List (Key × Value)}, Pairs (mixKind P w) es vs → KV kvs vs → Vals (kvs.map (·.2)) (es.map (·.val))
  | _, _, _, .nil, .nil => .nil
  | _, _, _, .cons hk hv t, .cons r rs => by
    rw [List.map_cons, List.map_cons, hv]
    exact .cons r.2 (vals_of_pairs t rs)
section
variable {X : Cx} {H : Hp} {s : Shared} {σ : L2.St} {pins : List (Addr × Obj)}
mutual
theorem Tr.reads (I : L2.Inv X pins σ H s) : ∀ {v : V} {d : PyData}, Tr H v d → ∀ u : Value, RelV v u → ∃ as, Reads s.heap u d as
  | _, _, .non, u, r => by
    cases (show u = Value.none from r)
    exact ⟨_, Reads.none⟩
  | _, _, .bl b, u, r => by
    cases (show u = Value.bool b from r)
    exact ⟨_, Reads.bool b⟩
  | _, _, .int i, u, r => by
    obtain ⟨t, e⟩ := (show ∃ t, u = Value.int i t from r)
    cases e
    exact ⟨_, Reads.int i t⟩
  | _, _, .str x, u, r => by
    obtain ⟨t, e⟩ := (show ∃ t, u = Value.str x t from r)
    cases e
    exact ⟨_, Reads.str x t⟩
  | _, _, @Tr.lst _ a xs ds h al, u, r => by
    cases (show u = Value.ref a from r)
    obtain ⟨_, its, n, rv, ho⟩ := (show ObjOk X.prog X.w H s.heap a (.lst xs) from I.hok a _ h)
    obtain ⟨as, q⟩ := TrAll.reads I al its rv
    exact ⟨_, Reads.list ho rfl rfl (by simpa using q)⟩
  | _, _, @Tr.tup _ a xs ds h al, u, r => by
    cases (show u = Value.ref a from r)
    obtain ⟨_, its, rv, o, ho, hc, n, hd⟩ := (show ObjOk X.prog X.w H s.heap a (.tup xs) from h.ok I.hok)
    obtain ⟨as, q⟩ := TrAll.reads I al its rv
    exact ⟨_, Reads.tuple ho hc hd (by simpa using q)⟩
  | _, _, @Tr.dct _ a kvs es h nd ek al, u, r => by
    cases (show u = Value.ref a from r)
    obtain ⟨_, _, vs, rel, o, des, ep, ho, hx, hd, _, pr, _⟩ := (show ObjOk X.prog X.w H s.heap a (.dK kvs) from I.hok a _ h)
    obtain ⟨bs, q⟩ := TrAll.reads I al _ (vals_of_pairs pr rel)
    exact ⟨_, Reads.dict ho hx.1 hd (by rw [ek]; exact reads_keys pr rel) q⟩
theorem TrAll.reads (I : L2.Inv X pins σ H s) : ∀ {vs : List V} {ds : List PyData}, TrAll H vs ds → ∀ us : List Value, Vals vs us → ∃ as, ReadsAll s.heap us ds as
  | _, _, .nil, us, r => by
    cases r
    exact ⟨_, ReadsAll.nil⟩
  | _, _, .cons h t, us, r => by
    cases r with
    | cons r1 r2 =>
      obtain ⟨as, q1⟩ := Tr.reads I h _ r1
      obtain ⟨bs, q2⟩ := TrAll.reads I t _ r2
      exact ⟨as ++ bs, .cons q1 q2⟩
end
end
/-- data without lists and dicts in it that stand at an address of their own -/
def plainD : PyData → Bool
  | .int _ | .str _ | .none | .bool _ => true
  | _ => false
def plainAll : (ds : List PyData) → Bool
  | [] => true
  | d :: ds => plainD d && plainAll ds
/-- a dict of plain things -/
def flatDict : PyData → Bool
  | .dict es => plainAll (es.map (·.2))
  | _ => false
section
variable {X : Cx} {H : Hp} {s : Shared} {σ : L2.St} {pins : List (Addr × Obj)}
theorem plain_reads {h : Heap} : ∀ {us : List Value} {ds : List PyData} {as : List Addr}, ReadsAll h us ds as → plainAll ds = true → as = []
  | _, _, _, .nil, _ => rfl
  | _, _, _, .cons hd tl, e => by
    rw [plainAll, Bool.and_eq_true] at e
    have ih := plain_reads tl e.2
    subst ih
    cases hd with
    | none => rfl
    | bool b => rfl
    | int i t => rfl
    | str x t => rfl
    | list _ _ _ _ => exact absurd e.1 (by simp [plainD])
    | tuple _ _ _ _ => exact absurd e.1 (by simp [plainD])
    | dict _ _ _ _ _ => exact absurd e.1 (by simp [plainD])
/-- flat dicts side by side lie at no address that the system keeps -/
theorem TrAll.flat (I : L2.Inv X pins σ H s) : ∀ {vs : List V} {ds : List PyData}, TrAll H vs ds → (∀ d ∈ ds, flatDict d = true) → ∀ us : List Value, Vals vs us → ∃ as, ReadsAll s.heap us ds as ∧ sysModules ∉ as
  | _, _, .nil, _, us, r => by
    cases r
    exact ⟨_, ReadsAll.nil, by simp⟩
  | _, _, @TrAll.cons _ v vs d ds h t, f, us, r => by
    cases r with
    | cons r1 r2 =>
      rename_i u us
      obtain ⟨bs, q2, n2⟩ := TrAll.flat I t (fun d hd => f d (List.mem_cons_of_mem _ hd)) _ r2
      have fd := f d List.mem_cons_self
      cases h with
      | non => cases fd
      | bl b => cases fd
      | int i => cases fd
      | str x => cases fd
      | lst _ _ => cases fd
      | tup _ _ => cases fd
      | @dct a kvs es h nd ek al =>
        cases (show u = Value.ref a from r1)
        obtain ⟨_, hsys, vs, rel, o, des, ep, ho, hx, hd, _, pr, _⟩ := (show ObjOk X.prog X.w H s.heap a (.dK kvs) from I.hok a _ h)
        obtain ⟨cs, q⟩ := TrAll.reads I al _ (vals_of_pairs pr rel)
        have ec := plain_reads q fd
        subst ec
        refine ⟨_, ReadsAll.cons (Reads.dict ho hx.1 hd (by rw [ek]; exact reads_keys pr rel) q) q2, ?_⟩
        intro z
        rcases List.mem_append.mp z with z | z
        · have z' : sysModules = a := by simpa using z
          rw [z'] at hsys
          simp at hsys
        · exact n2 z
end
/-- repr of a list, where what stands in it lies at no address that the system keeps -/
theorem repr_listD {prog : Program} {w : World} {A : Around} {E : Value → Shared → Prop} {s : Shared} {Q : Value → Shared → Prop} {a : Addr} {o : Obj} {vs : List Value} {n : Nat} {xs : List PyData} {as : List Addr}
    (h1 : s.heap.get? a = some o) (h2 : o.cls = .type "list") (h3 : o.data = .seq vs.toArray n) (h4 : ReadsAll s.heap vs xs as) (hs : PyData.showableAll xs = true) (hm : PyData.hasDictAll xs = true → sysModules ∉ as) (hg : A.guards = some [])
    (hu : A.units + (PyData.depth (.list xs) + 1) < cLine) (hsz : (PyData.shown (.list xs)).length ≤ sizeLine)
    (hQ : ∀ h' u tk, (∀ b o, s.heap.get? b = some o → h'.get? b = some o) → Q (.str (PyData.shown (.list xs)) u) { s with heap := h', toks := tk }) : wpAny (model prog w) A (call (.builtin "repr") [.ref a]) Q E s := by
  have zl : (listText (PyData.shownAll xs)).length ≤ sizeLine := by simpa only [PyData.shown] using hsz
  obtain ⟨bs, hb, hk⟩ := ReprAllK.of_readsAll (prog := prog) (w := w) h4 hs hm (fun t ht => Nat.le_trans (listText_mem_le ht) zl)
  have r0 : Reads s.heap (.ref a) (.list xs) (a :: as) := Reads.list h1 h2 h3 (by simpa using h4)
  have na : a ∉ bs := not_mem_of_deeper r0 (by simp only [PyData.depth]; omega) hb
  simp only [PyData.depth] at hu; simp only [PyData.shown] at hQ
  refine call_repr_slot (by omega) ⟨o, h1, h2⟩ F.slot_list_repr.toG ?_
  cases vs with
  | nil =>
    cases h4
    simp only [listText_nil, PyData.shownAll] at hQ
    exact call_list_repr_empty ⟨o, h1, h2⟩ h1 h3 ⟨_, _, rfl, hQ s.heap _ _ fun _ _ e => e⟩
  | cons x l =>
    exact call_list_reprK (h₀ := s.heap) h1 h2 h3 na (by simpa using hk.length_eq) (fun i y e => hk.item i y (by simpa using e)) hg (fun b _ => Clear.nil b) (by show A.units + 1 + (PyData.depthAll xs + 1) < cLine; omega) (fun _ _ e => e) (fun h' u tk k => ⟨_, _, rfl, hQ h' u tk k⟩) zl
/-- repr(xs), xs a list: things without dicts, or flat dicts alone -/
theorem call_reprL {X : Cx} (hg : X.A.guards = some []) (hu : X.A.units + 100 < cLine) : CallR X (.builtin "repr") (fun xs H Q => ∃ (a : Addr) (zs : List V) (ds : List PyData), xs = [.ref a] ∧ H a = some (.lst zs) ∧ TrAll H zs ds ∧ (PyData.hasDictAll ds = false ∨ ∀ d ∈ ds, flatDict d = true) ∧
    PyData.showableAll ds = true ∧ PyData.depthAll ds ≤ 60 ∧ (PyData.shown (.list ds)).length ≤ sizeLine ∧ Q (.str (PyData.shown (.list ds))) H) := by
  intro pz s σ H xs ua Q I r h
  obtain ⟨a, zs, ds, rfl, ha, al, hd, hs, hdep, hsz, q⟩ := h
  obtain rfl := Vals.ref1 r
  obtain ⟨_, its, n, rv, ho⟩ := (show ObjOk X.prog X.w H s.heap a (.lst zs) from I.hok a _ ha)
  have key : ∃ as, ReadsAll s.heap its ds as ∧ (PyData.hasDictAll ds = true → sysModules ∉ as) := by
    rcases hd with hd | hd
    · obtain ⟨as, q⟩ := TrAll.reads I al its rv
      exact ⟨as, q, fun z => by rw [hd] at z; cases z⟩
    · obtain ⟨as, q, nq⟩ := TrAll.flat I al hd its rv
      exact ⟨as, q, fun _ => nq⟩
  obtain ⟨as, q4, hm⟩ := key
  refine repr_listD ho rfl rfl q4 hs hm hg (by simp only [PyData.depth]; omega) hsz fun h' u tk k => ?_
  exact ⟨.str _, H, I.kept (t' := tk) k, ⟨u, rfl⟩, q⟩
end Pk
namespace Pk
open PySem L2
/-! ### written data: an expression that makes new things alone -/
/-- what of H' is new -/
def newP (H H' : Hp) : Hp := fun b => match H b with
  | none => H' b
  | some _ => none
theorem newP_at {H H' : Hp} {b : Addr} (h : H b = none) : newP H H' b = H' b := by
  unfold newP
  rw [h]
theorem newP_some {H H' : Hp} {b : Addr} {o : HO} (h : newP H H' b = some o) : H b = none ∧ H' b = some o := by
  unfold newP at h
  cases e : H b with
  | none =>
    rw [e] at h
    exact ⟨rfl, h⟩
  | some u =>
    rw [e] at h
    cases h
theorem newP_grow {H H1 H2 : Hp} (s : Same H1 H2) : Same (newP H H1) (newP H H2) := fun b o e => by
  obtain ⟨h1, h2⟩ := newP_some e
  rw [newP_at h1]
  exact s b o h2
theorem newP_back {H H1 H2 : Hp} (s : Same H H1) : Same (newP H1 H2) (newP H H2) := fun b o e => by
  obtain ⟨h1, h2⟩ := newP_some e
  rw [newP_at (s.free h1)]
  exact h2
theorem newP_all {H H' : Hp} : Same (newP H H') H' := fun b o e => (newP_some e).2
/-- new things are no place that was there -/
theorem newP_del {H H' : Hp} {p : Addr} {o : HO} (h : H p = some o) : Same (newP H H') (del H' p) := fun b u e => by
  obtain ⟨h1, h2⟩ := newP_some e
  rw [del_ne (fun z => by rw [z, h] at h1; cases h1)]
  exact h2
def tD (d : PyData) : TE := fun _ H Q => ∀ v H', Same H H' → Tr (newP H H') v d → Q v H'
def tDs (ds : List PyData) : TA := fun _ H Q => ∀ vs H', Same H H' → TrAll (newP H H') vs ds → Q vs H'
section
variable {X : Cx} {e : Expr} {es : List Expr} {d : PyData} {ds : List PyData} {pos p1 p2 : Pos} {j : Nat}
theorem peW {t t' : TE} (h : PE X e t) (f : ∀ σ H Q, t' σ H Q → t σ H Q) : PE X e t' := ⟨fun pz s σ H Q I q => h.run pz s σ H Q I (f σ H Q q)⟩
theorem paW {t t' : TA} (h : PA X es t) (f : ∀ σ H Q, t' σ H Q → t σ H Q) : PA X es t' := ⟨fun po pz s σ H Q I q => h.run po pz s σ H Q I (f σ H Q q)⟩
theorem pd_int {i : Int} (h : PE X e (tC (.int i))) : PE X e (tD (.int i)) := peW h fun _ H Q q => q _ H (Same.refl _) (.int i)
theorem pd_str {i : Str} (h : PE X e (tC (.str i))) : PE X e (tD (.str i)) := peW h fun _ H Q q => q _ H (Same.refl _) (.str i)
theorem pd_bl {i : Bool} (h : PE X e (tC (.bl i))) : PE X e (tD (.bool i)) := peW h fun _ H Q q => q _ H (Same.refl _) (.bl i)
theorem pd_non (h : PE X e (tC .non)) : PE X e (tD .none) := peW h fun _ H Q q => q _ H (Same.refl _) .non
theorem pd_nil : PA X [] (tDs []) := paW pa_nil fun _ H Q q => q [] H (Same.refl _) .nil
theorem pd_cons (h : PE X e (tD d)) (t : PA X es (tDs ds)) (hs : starEach (e :: es) X.env = (false, eval e X.env) :: starEach es X.env := by rfl) : PA X (e :: es) (tDs (d :: ds)) := by
  refine paW (pa_cons h t hs) fun σ H Q q => ?_
  intro v H1 s1 r1 vs H2 s2 r2
  exact q (v :: vs) H2 (s1.trans s2) (.cons (r1.same (newP_grow s2)) (r2.same (newP_back s1)))
theorem pd_tup {x1} (h : PA X es (tDs ds)) (hl : ds.length ≤ 1000 := by decide) : PE X (.Tuple es x1 pos) (tD (.tuple ds)) := by
  refine peW (pe_tup h) fun σ H Q q => ?_
  intro vs H1 s1 r1
  have e1 : vs.length ≤ sizeLine := Nat.le_of_lt (small1000 (by rw [r1.length]; exact hl))
  refine ⟨e1, fun p hp => ?_⟩
  have s2 := sameNew hp (.tup vs)
  refine q (.ref p) _ (s1.trans s2) (.tup (.inl ?_) (r1.same (newP_grow s2)))
  rw [newP_at (s1.free hp), upd_same]
theorem pd_lst (h : PA X es (tDs ds)) (hl : ds.length ≤ 1000 := by decide) : PE X (.List es pos) (tD (.list ds)) := by
  refine peW (pe_lst h) fun σ H Q q => ?_
  intro vs H1 s1 r1
  have e1 : vs.length ≤ sizeLine := Nat.le_of_lt (small1000 (by rw [r1.length]; exact hl))
  refine ⟨e1, fun p hp => ?_⟩
  have s2 := sameNew hp (.lst vs)
  refine q (.ref p) _ (s1.trans s2) (.lst ?_ (r1.same (newP_grow s2)))
  rw [newP_at (s1.free hp), upd_same]
theorem pd_d0 : PE X (.Dict [] [] pos) (tD (.dict [])) := by
  refine peW pe_dnewK fun σ H Q q => ?_
  intro p hp
  refine q (.ref p) _ (sameNew hp _) (.dct (kvs := []) ?_ List.nodup_nil rfl .nil)
  rw [newP_at hp, upd_same]
/-- {'a': 0} -/
theorem pd_d1 {k : Str} {i : Int} {po : Pos} {kx vx : Expr} (hk : PE X kx (tC (.str k))) (hv : PE X vx (tC (.int i))) : PE X (.Dict [some kx] [vx] po) (tD (.dict [(.str k, .int i)])) := by
  refine peW (pe_disp (pps_cons hk hv pps_nil) (by rfl) (by rfl) (fun z => by cases z) (by show 1 ≤ 15; decide)) fun σ H Q q => ?_
  intro p hp
  refine ⟨upd_same, [(Sum.inr k, .int i)], rfl, (by show 1 ≤ 15; decide), ?_⟩
  rw [upd_upd]
  refine q (.ref p) _ (sameNew hp _) (.dct (kvs := [(Sum.inr k, .int i)]) ?_ (by simp) rfl (.cons (.int i) .nil))
  rw [newP_at hp, upd_same]
  rfl
/-- 10 ** 18 and the like -/
theorem pd_pow {a b : Expr} {i k : Int} (ha : PE X a (tC (.int i))) (hb : PE X b (tC (.int k))) (h : CPow i k := by exact ⟨by decide, by decide, by decide⟩) : PE X (.BinOp a .Pow b pos) (tC (.int (i ^ k.toNat))) :=
  peW (pe_op op_pow ha hb) fun σ H Q q => ⟨_, _, rfl, rfl, h, q⟩
theorem pd_neg {a : Expr} {i : Int} (ha : PE X a (tC (.int i))) : PE X (.UnaryOp .USub a pos) (tC (.int (-i))) :=
  peW (pe_un un_neg ha) fun σ H Q q => ⟨_, rfl, q⟩
end
end Pk
namespace Pk
open PySem L2 PySem.Spec PyProof.Rows
/-! ### defs that are run where no text of a list is under way (for repr) -/
/-- the def at f keeps sp, where no repr is under way -/
structure FnG (P : Program) (w : World) (K : PySem.W.Frag) (mg : Str → Option Value) (bs : Heap) (k : Nat) (f : Addr) (fd : FuncData) (ps : List Str) (sp : Sp) : Prop where
  len : ∀ va H Q E, sp va H Q E → va.length = ps.length
  run : ∀ (A : Around) (out : List Env) (s : Shared) (H : Hp) (ar : Args) (ua : List Value) (va : List V) (Q : VK) (E : XK), A.guards = some [] → Room k A → Env0 P w K mg bs A out s H → BindsTo s fd ar (ps.zip ua) → Vals va ua → sp va H Q E →
    codeAny (model P w) A (.call (.ref f) ar) (CR CX0 out P w H s Q E) s
theorem Fun.okG {P : Program} {w : World} {K : PySem.W.Frag} {mg : Str → Option Value} {bs : Heap} {x ql : Str} {st : Stmt} {f : Addr} {fd : FuncData} {N ps : List Str} {k : Nat} {sp : Sp} (F : Fun K x ql st f fd) (S : FnScope N ps (defScope st)) (len : ∀ va H Q E, sp va H Q E → va.length = ps.length)
    (hbd : ∀ (cv : Value) (A : Around) (out : List Env) (s : Shared) (H : Hp) (va : List V) (Q : VK) (E : XK), A.guards = some [] → Room k (A.deeper (envOfC ql (defScope st) s.heap.objs.size f cv)) → sp va H Q E →
      ∃ t, PSs (cxOf CX0 P w K mg bs N ql (defScope st) f cv A out s H E).nox (defBody st) t ∧ t { nx := fun _ H' => Q .non H', rt := Q } (L2.start N va) H) : FnG P w K mg bs (k + 1) f fd ps sp := by
  obtain ⟨oc, oq, kV, doc, pm, an, cv, ct, osl, rfl, lk, hcd⟩ := F.ex
  refine ⟨len, fun A out s H ar ua va Q E hgd hr ez hbt rr hq => ?_⟩
  have hlen := len _ _ _ _ hq
  have inK : K.In s.heap := ez.mod.kin.keeps fun b o e => (ez.bs b o e).1
  have noL : s.heap.NoLimit := ez.mod.nolimit.keeps fun b o e => (ez.bs b o e).1
  refine codeAny_call_function hr.depth (inK _ _ lk) rfl S.co S.gen rfl (PySem.W.codeRec_of inK hcd) (hbt _ _ _ _ (wpAny_newFunctionEnv_cells S.kind (fun ⟨n, v⟩ hy => ?_) fun env he sz xx => ?_))
  · rcases S.par n (List.of_mem_zip hy).1 with z | z
    · exact .inl z
    · exact .inr ⟨z, PySem.W.cellsFrom_some _ _ _ (.inl z)⟩
  · subst he
    refine ⟨noL.keeps xx.toInCall.keep, codeAny_func ?_⟩
    obtain ⟨t, ht, hw⟩ := hbd cv A out s H va Q E hgd (hr.deeper _) hq
    have J : L2.Inv (cxOf CX0 P w K mg bs N ql (defScope st) f cv A out s H E) [] (L2.start N va) H sz := inv_start S hr.hd ez hlen rr xx
    refine wpAny_mono (ht.nox.run [] sz _ H _ J hw) (fun fl sy hy => ?_) fun e sy hy => hy
    cases fl with
    | ret u =>
      obtain ⟨v, σy, Hy, Jy, rv, qy⟩ := hy
      exact ⟨v, Hy, Jy.os, Jy.bare, Jy.base, Jy.hok, rv, qy⟩
    | next =>
      obtain ⟨σy, Hy, Jy, qy⟩ := hy
      exact ⟨.non, Hy, Jy.os, Jy.bare, Jy.base, Jy.hok, rfl, qy⟩
    | brk =>
      obtain ⟨_, _, _, qy⟩ := hy
      exact qy.elim
    | cont =>
      obtain ⟨_, _, _, qy⟩ := hy
      exact qy.elim
/-- f(e, ..) of such a def, where no repr is under way -/
theorem pe_callG {X : Cx} {k : Nat} {f : Addr} {fd : FuncData} {ps : List Str} {sp : Sp} {x : Str} {p pos : Pos} {e : Expr} {es : List Expr} {t : TA} (hgd : X.A.guards = some []) (G : FnG X.prog X.w X.K X.mg X.base k f fd ps sp) (hr : Room k X.A) (hg : Gl X x) (hm : X.mg x = some (.ref f)) (hk : PySem.W.keepIn X.K (.ref f) = true)
    (hb : Binds X.K fd ps []) (ha : PA X (e :: es) t) (hdg : (x == ("__debug__" : Str)) = false := by decide) (he : starEach (e :: es) X.env = (false, eval e X.env) :: starEach es X.env := by rfl) (hpz : (backTo pos (starEach es X.env)).any (·.1) = false := by rfl) :
    PE X (.Call (.Name x p) (e :: es) [] pos) (fun σ H Q => t σ H fun va Ha => sp va Ha Q fun _ _ _ => False) := by
  refine ⟨fun pz s σ H Q I hq => wpAny_Call_Name_kw (ld_glob I hg hm (PySem.W.callWith_K (h₀ := X.base) I.ok.mod.kin hk (thn (ha.run pos pz s σ H _ I hq) fun ua sa ⟨va, Ha, Ia, ra, qa⟩ => ⟨Ia.kIn, ?_⟩) he hpz) hdg)⟩
  have hlen : ua.length = ps.length := by
    rw [← ra.length]
    exact G.len _ _ _ _ qa
  have bt := hb sa ua Ia.kIn (by rw [List.append_nil]; exact hlen)
  rw [List.append_nil] at bt
  refine wpAny_call (codeAny_mono (G.run X.A X.stack sa Ha ⟨ua, []⟩ ua va Q (fun _ _ _ => False) hgd hr Ia.env0 bt ra qa) fun rr sy hy => ?_)
  cases rr with
  | error ee => exact hy.elim
  | ok fl =>
    cases fl with
    | ret u => exact Ia.after hy
    | next => exact hy.elim
    | brk => exact hy.elim
    | cont => exact hy.elim
/-- the law's call from outside: at the heap behind the top nothing but the script is tracked -/
theorem lawG {P : Program} {w : World} {K : PySem.W.Frag} {mg mb : Str → Option Value} {k : Nat} {fa a : Addr} {fd : FuncData} {x : Str} {sp : Sp} {sz : Shared} {va : List Value} {ns : List Int}
    (inK : K.In sz.heap) (hn : sz.heap.Ns mainGlobals mg) (hbn : sz.heap.Ns builtinsNs mb) (hbb : ∀ x : Str, x ≠ "__name__" → mb x = bootBuiltins x) (noL : sz.heap.NoLimit) (hgn : sz.gens = #[])
    (ha : sz.heap.get? a = some { cls := .type "list", data := .seq va.toArray }) (hi : IntsAre va ns) (hl : ns.length ≤ sizeLine) (hr : Room k callerA)
    (G : ∀ bs : Heap, K.In bs → bs.Ns mainGlobals mg → FnG P w K mg bs k fa fd [x] sp) (hbt : ∀ (s : Shared) (u : Value), BindsTo s fd ⟨[u], []⟩ [(x, u)])
    (hq : ∀ H : Hp, SqL K H a (ns.map V.int) → sp [.ref a] H (fun v _ => v = .bl true) fun _ _ _ => False) :
    codeAny (model P w) callerA (.call (.ref fa) ⟨[.ref a], []⟩) (fun r s' => r = .ok (.ret (.bool true)) ∧ OldK sz.heap s'.heap ∧ s'.os = sz.os ∧ AllBare s'.gens) sz := by
  have rr := vals_ints hi
  have ln := hi.length
  have main : ∀ H : Hp, L2.Only H → SqL K H a (ns.map V.int) → HOk P w H sz.heap → (∀ b, H b ≠ none → b = a) → (H a ≠ none → K.lookup a = none) →
      codeAny (model P w) callerA (.call (.ref fa) ⟨[.ref a], []⟩) (fun r s' => r = .ok (.ret (.bool true)) ∧ OldK sz.heap s'.heap ∧ s'.os = sz.os ∧ AllBare s'.gens) sz := by
    intro H only hS hok hA hK
    have isA : ∀ {b : Addr} {u : HO}, H b = some u → b = a := fun {b u} z => hA b (by rw [z]; simp)
    have free : ∀ {b : Addr} {o : Obj} {es : Array DictEntry} {ep : Nat}, sz.heap.get? b = some o → o.data = .dict es ep → H b = none := fun {b o es ep} e d => by
      cases z : H b with
      | none => rfl
      | some u =>
        have eb := isA z
        subst eb
        rw [ha] at e
        cases e
        cases (show Data.seq va.toArray _ = Data.dict es ep from d)
    have nsB : ∀ {b : Addr} {m : Str → Option Value}, sz.heap.Ns b m → (hidT sz.heap H).Ns b m := fun {b m} ⟨o, es, ep, e, d, z⟩ => ⟨o, es, ep, hidT_get e (free e d), d, z⟩
    have kB : K.In (hidT sz.heap H) := fun b o e => hidT_get (inK b o e) (by
      cases z : H b with
      | none => rfl
      | some u =>
        have eb := isA z
        subst eb
        rw [hK (by rw [z]; simp)] at e
        cases e)
    have md : Mod K mg (hidT sz.heap H) := ⟨kB, nsB hn, ⟨mb, nsB hbn, hbb⟩, let ⟨mc, z1, z2⟩ := noL; ⟨mc, nsB z1, z2⟩⟩
    have ez : Env0 P w K mg (hidT sz.heap H) callerA [] sz H := ⟨rfl, md, fun b o e => of_hidT e, Nat.le_of_eq (hidT_size _ _), trivial, fun b hb => absurd (show b ∈ ([] : List Addr) from hb) (by simp), hok, .of_eq hgn⟩
    refine codeAny_mono ((G _ kB (nsB hn)).run callerA [] sz H ⟨[.ref a], []⟩ [.ref a] [.ref a] _ _ rfl hr ez (hbt sz (.ref a)) (.cons rfl .nil) (hq H hS)) fun rz sy hy => ?_
    cases rz with
    | error e => exact hy.elim
    | ok fl =>
      cases fl with
      | next => exact hy.elim
      | brk => exact hy.elim
      | cont => exact hy.elim
      | ret u =>
        obtain ⟨v, Hy, osy, bry, un, oky, rv, qy⟩ := hy
        cases (show v = .bl true from qy)
        cases (show u = Value.bool true from rv)
        refine ⟨rfl, OldK.of_keep fun b o e => ?_, osy, bry⟩
        cases z : H b with
        | none => exact un.keep b o e z (fun q => absurd (show b ∈ ([] : List Addr) from q) (by simp)) (by simp)
        | some u =>
          rcases only b with q | ⟨ob, xs, q⟩
          · rw [z] at q
            cases q
          · obtain ⟨g1, _⟩ := hok b _ q
            obtain ⟨g2, _⟩ := oky b _ (un.frzs b ob _ q)
            rw [e] at g1
            cases g1
            exact g2
  cases hk : K.lookup a with
  | some o =>
    have e := inK a o hk
    rw [ha] at e
    cases e
    exact main (fun _ => none) (fun _ => .inl rfl) (.inr ⟨_, va.toArray, _, hk, rfl, rfl, rfl, by rw [List.size_toArray, ln]; exact hl, by simpa using rr⟩) (fun b u z => by cases (show (none : Option HO) = some u from z)) (fun b z => absurd rfl z) fun z => absurd rfl z
  | none =>
    refine main (fun b => if b = a then some (.frz { cls := .type "list", data := .seq va.toArray } (.lst (ns.map V.int))) else none) (fun b => ?_) (.inl (.inr ⟨{ cls := .type "list", data := .seq va.toArray }, if_pos rfl⟩)) (fun b u z => ?_) (fun b z => ?_) fun _ => hk
    · by_cases hb : b = a
      · right; exact ⟨_, _, if_pos hb⟩
      · exact .inl (if_neg hb)
    · by_cases hb : b = a
      · cases (if_pos hb).symm.trans z
        subst hb
        exact ⟨ha, by rw [List.length_map]; exact hl, va, _, rr, ha⟩
      · cases (if_neg hb).symm.trans z
    · by_cases hb : b = a
      · exact hb
      · exact absurd (if_neg hb) z
/-- the goal that the head leaves, from the law's promise -/
theorem walkG {l : PySem.W.OpenLaw} {n k : Nat} {q : Program} {loose : List Str} {XP : (Str → Option Value) → Heap → Prop} {YP : World → Heap → Prop} {d : DefRec} {K : Params → PySem.W.Frag} {sp : PySem.W.Frag → Sp} {x : Str}
    (hr : Room k callerA) (hn : l.most = some n) (hn2 : n ≤ sizeLine) (hdf : d.params.defaults = []) (hY : ∀ (w : World) (h : Heap), YP w h → (K w.params).In h)
    (G : ∀ (w : World) (mg : Str → Option Value) (fa : Addr) (h : Heap), (K w.params).In h → h.Ns mainGlobals mg → mg d.name = some (.ref fa) →
      ∃ fd : FuncData, (∀ (s : Shared) (u : Value), BindsTo s fd ⟨[u], []⟩ [(x, u)]) ∧ ∀ bs : Heap, (K w.params).In bs → bs.Ns mainGlobals mg → FnG l.prog w (K w.params) mg bs k fa fd [x] (sp (K w.params)))
    (hq : ∀ (K : PySem.W.Frag) (H : Hp) (a : Addr) (ns : List Int), ns.length ≤ n → SqL K H a (ns.map V.int) → sp K [.ref a] H (fun v _ => v = .bl true) fun _ _ _ => False) :
    PySem.W.WalkO q loose XP YP l.row.toRowW d [] (fun f va => PySem.call f va) := by
  refine Att.attach_call hn hdf fun w sy sz mg mb fa o pm cd doc a va ns Gr Y ho hd hcd hmg hob hin hle hgn => ?_
  have inK := hY w _ Y
  obtain ⟨fd, hbt, hG⟩ := G w mg fa _ inK Gr.T.g hmg
  exact lawG inK Gr.T.g Gr.T.b Gr.T.builtins Gr.T.nolimit hgn hob hin (Nat.le_trans hle hn2) hr hG hbt fun H hS => hq _ H a ns hle hS
end Pk
/-! a dict is no text -/
namespace Pk
open PySem PySem.SeqAt PySem.MeetsSeq PySem.AutoSeq1
theorem strNoDict (b : Str) (u : Tok) (l : Addr) (es : Array DictEntry) (n : Nat) (dd : Option Addr) (sl : Array (Option Value)) :
    Meets (Builtin.«str.__eq__» ⟨[.str b u, .ref l], []⟩) (fun _ R s => s.heap.get? l = some { cls := .type "dict", dict := dd, data := .dict es n, slots := sl } ∧ R (.ok (.ret .notImplemented)) s) :=
  .of_wp fun prog w A R s h => by
    obtain ⟨hp, g, d, tk, os⟩ := s
    obtain ⟨hl, h⟩ := h
    wp_walk using wpAny_loadPart' hl, wpAny_load hl
    exact ⟨_, rfl, h⟩
theorem dictNoStr (b : Str) (u : Tok) (l : Addr) (es : Array DictEntry) (n : Nat) (dd : Option Addr) (sl : Array (Option Value)) :
    Meets (Builtin.«dict.__eq__» ⟨[.ref l, .str b u], []⟩) (fun _ R s => s.heap.get? l = some { cls := .type "dict", dict := dd, data := .dict es n, slots := sl } ∧ R (.ok (.ret .notImplemented)) s) :=
  .of_wp fun prog w A R s h => by
    obtain ⟨hp, g, d, tk, os⟩ := s
    obtain ⟨hl, h⟩ := h
    wp_walk using wpAny_loadPart' hl, wpAny_load hl
    refine wpAny_of_eq (a := false) F.sub_str_dict ?_
    wp_walk using wpAny_loadPart' hl, wpAny_load hl
    exact ⟨_, rfl, h⟩
section
variable {A : Around} {s : Shared}
theorem rcStrDict {l : Addr} {es : Array DictEntry} {n : Nat} {dd : Option Addr} {sl : Array (Option Value)} (b : Str) (u : Tok) (hl : s.heap.get? l = some { cls := .type "dict", dict := dd, data := .dict es n, slots := sl }) (hu : A.units < cLine) : RcAt A s (.str b u) (.ref l) false := fun prog w E Q h =>
  rc_eq_decline_or (k := false) (typeIs_str s b u) ⟨_, hl, rfl⟩ (by decide) F.sub_dict_str F.slot_str_eq F.slot_dict_eq_refl
    (fun _ q => call_meets F.slot_str_eq (typeIs_str s b u) F.entry_str_eq (F.args_str_eq_2 _ _) (strNoDict b u l es n dd sl) ⟨hl, q⟩)
    (fun _ q => call_meets F.slot_dict_eq_refl ⟨_, hl, rfl⟩ F.entry_dict_eq (F.args_dict_eq_2 _ _) (dictNoStr b u l es n dd sl) ⟨hl, q⟩)
    (fun _ q => wpAny_of_eq (rfl : isSame (.str b u) (.ref l) = pure false) q) (.inr hu) h
theorem rcDictStr {l : Addr} {es : Array DictEntry} {n : Nat} {dd : Option Addr} {sl : Array (Option Value)} (b : Str) (u : Tok) (hl : s.heap.get? l = some { cls := .type "dict", dict := dd, data := .dict es n, slots := sl }) (hu : A.units < cLine) : RcAt A s (.ref l) (.str b u) false := fun prog w E Q h =>
  rc_eq_decline_or (k := false) ⟨_, hl, rfl⟩ (typeIs_str s b u) (by decide) F.sub_str_dict F.slot_dict_eq F.slot_str_eq_refl
    (fun _ q => call_meets F.slot_dict_eq ⟨_, hl, rfl⟩ F.entry_dict_eq (F.args_dict_eq_2 _ _) (dictNoStr b u l es n dd sl) ⟨hl, q⟩)
    (fun _ q => call_meets F.slot_str_eq_refl (typeIs_str s b u) F.entry_str_eq (F.args_str_eq_2 _ _) (strNoDict b u l es n dd sl) ⟨hl, q⟩)
    (fun _ q => wpAny_of_eq (rfl : isSame (.ref l) (.str b u) = pure false) q) (.inr hu) h
theorem eqStrDict {l : Addr} {es : Array DictEntry} {n : Nat} {dd : Option Addr} {sl : Array (Option Value)} (b : Str) (u : Tok) (hl : s.heap.get? l = some { cls := .type "dict", dict := dd, data := .dict es n, slots := sl }) (hu : A.units < cLine) : EqAt A s (.str b u) (.ref l) false := fun prog w E Q h => by
  unfold eqBool
  exact wpAny_holding (wpAny_ite_split (fun hab => absurd (eq_of_beq hab) nofun) fun _ => wpAny_bind (rcStrDict b u hl hu prog w E _ (wpAny_truthy_bool h)))
end
end Pk
namespace Pk
open PySem L2
/-- the data is this text -/
def strIs (y : Str) : PyData → Bool
  | .str z => y == z
  | _ => false
section
variable {X : Cx} {pz : List (Addr × Obj)} {σ : L2.St} {H : Hp} {s : Shared} {A : Around} {x : V} {d : PyData} {v : Value}
theorem Tr.eqStr (I : L2.Inv X pz σ H s) (t : Tr H x d) (r : RelV x v) (hu : A.units < cLine) (y : Str) (u : Tok) : SeqAt.EqAt A s (.str y u) v (strIs y d) := by
  cases t with
  | non => cases (show v = .none from r); exact SeqAt.EqAt.str_none y u
  | bl b => cases (show v = .bool b from r); exact SeqAt.EqAt.str_bool y u b
  | int i => obtain ⟨k, e⟩ := (show ∃ k, v = .int i k from r); cases e; exact SeqAt.EqAt.str_int y u i k
  | str z => obtain ⟨k, e⟩ := (show ∃ k, v = .str z k from r); cases e; exact SeqAt.EqAt.str_str y u z k
  | @lst a xs ds h al =>
    cases (show v = .ref a from r)
    obtain ⟨_, its, n, rv, ho⟩ := (show ObjOk X.prog X.w H s.heap a (.lst xs) from I.hok a _ h)
    exact SeqAt.EqAt.str_list y u ⟨_, ho, rfl, n, rfl⟩ hu
  | @tup a xs ds h al =>
    cases (show v = .ref a from r)
    obtain ⟨_, its, rv, ho⟩ := (show ObjOk X.prog X.w H s.heap a (.tup xs) from h.ok I.hok)
    exact SeqAt.EqAt.str_tuple y u ho hu
  | @dct a kvs es h nd ek al =>
    cases (show v = .ref a from r)
    obtain ⟨_, _, vs, rel, ⟨oc, od, odt, osl⟩, des, ep, ho, hx, hd, _⟩ := (show ObjOk X.prog X.w H s.heap a (.dK kvs) from I.hok a _ h)
    obtain ⟨x1, x2, x3⟩ := hx
    dsimp only at x1 x2 x3 hd
    subst x1 x2 x3 hd
    exact eqStrDict y u ho hu
theorem Tr.rcStr (I : L2.Inv X pz σ H s) (t : Tr H x d) (r : RelV x v) (hu : A.units < cLine) (y : Str) (u : Tok) : SeqAt.RcAt A s v (.str y u) (strIs y d) := by
  cases t with
  | non => cases (show v = .none from r); exact SeqAt.RcAt.none_str y u
  | bl b => cases (show v = .bool b from r); exact SeqAt.RcAt.bool_str b y u
  | int i => obtain ⟨k, e⟩ := (show ∃ k, v = .int i k from r); cases e; exact SeqAt.RcAt.int_str i k y u
  | str z =>
    obtain ⟨k, e⟩ := (show ∃ k, v = .str z k from r)
    cases e
    have q := SeqAt.RcAt.str_str (A := A) (s := s) z k y u
    have e : strIs y (.str z) = (z == y) := by
      show (y == z) = (z == y)
      by_cases h : y = z
      · subst h; rfl
      · rw [beq_eq_false_iff_ne.mpr h, beq_eq_false_iff_ne.mpr (Ne.symm h)]
    rw [e]
    exact q
  | @lst a xs ds h al =>
    cases (show v = .ref a from r)
    obtain ⟨_, its, n, rv, ho⟩ := (show ObjOk X.prog X.w H s.heap a (.lst xs) from I.hok a _ h)
    exact SeqAt.RcAt.list_str y u ⟨_, ho, rfl, n, rfl⟩ hu
  | @tup a xs ds h al =>
    cases (show v = .ref a from r)
    obtain ⟨_, its, rv, ho⟩ := (show ObjOk X.prog X.w H s.heap a (.tup xs) from h.ok I.hok)
    exact SeqAt.RcAt.tuple_str y u ho hu
  | @dct a kvs es h nd ek al =>
    cases (show v = .ref a from r)
    obtain ⟨_, _, vs, rel, ⟨oc, od, odt, osl⟩, des, ep, ho, hx, hd, _⟩ := (show ObjOk X.prog X.w H s.heap a (.dK kvs) from I.hok a _ h)
    obtain ⟨x1, x2, x3⟩ := hx
    dsimp only at x1 x2 x3 hd
    subst x1 x2 x3 hd
    exact rcDictStr y u ho hu
end
section
variable {X : Cx}
/-- x == 'text', x any data -/
theorem op_eqS (hu : X.A.units + 1 < cLine) : OpR X (compareOp .Eq) (fun x y H Q => ∃ d z, Tr H x d ∧ y = .str z ∧ Q (.bl (strIs z d)) H) := by
  intro pz s σ H x y v u Q I rx ry h
  obtain ⟨d, z, t, rfl, q⟩ := h
  obtain ⟨k, e⟩ := (show ∃ k, u = .str z k from ry)
  cases e
  exact t.rcStr I rx (by omega) z k X.prog X.w X.xe _ ⟨.bl _, H, I, rfl, q⟩
theorem anyStr {e : Value → Bool} {f : Str → Bool} (h : ∀ z k, e (.str z k) = f z) : ∀ {zs : List Str} {us : List Value}, Vals (zs.map V.str) us → us.any e = zs.any f
  | [], _, .nil => rfl
  | z :: zs, _, .cons r t => by
    obtain ⟨k, e1⟩ := (show ∃ k, _ = Value.str z k from r)
    cases e1
    rw [List.any_cons, List.any_cons, h, anyStr h t]
/-- a text's sake: the answer of a text beside the data -/
def isS (d : PyData) : Value → Bool
  | .str z _ => strIs z d
  | _ => false
theorem memStr {zs : List Str} {us : List Value} (r : Vals (zs.map V.str) us) {y : Value} (h : y ∈ us) : ∃ z k, y = .str z k := by
  induction zs generalizing us with
  | nil => cases r; cases h
  | cons z zs ih =>
    cases r with
    | cons r t =>
      rcases List.mem_cons.mp h with e | h
      · subst e
        obtain ⟨k, e1⟩ := (show ∃ k, y = Value.str z k from r)
        exact ⟨z, k, e1⟩
      · exact ih t h
/-- x in (texts), x any data -/
theorem op_inS (hu : X.A.units + 1 < cLine) : OpR X (compareOp .In) (fun x y H Q => ∃ (d : PyData) (a : Addr) (zs : List Str), Tr H x d ∧ y = .ref a ∧ (SqL X.K H a (zs.map V.str) ∨ SqT X.K H a (zs.map V.str)) ∧ Q (.bl (zs.any fun z => strIs z d)) H) := by
  intro pz s σ H x y v u Q I rx ry h
  obtain ⟨d, a, zs, t, rfl, hs, q⟩ := h
  cases (show u = .ref a from ry)
  rcases hs with hs | hs
  · obtain ⟨its, rv, pl, _⟩ := I.list hs
    refine SeqAt.in_listAt (isS d) pl.isList (fun y hy => ?_) ⟨.bl _, H, I, ?_, q⟩
    · obtain ⟨z, k, rfl⟩ := memStr rv (by simpa using hy)
      exact t.eqStr I rx (by show X.A.units + 1 < cLine; omega) z k
    · show Value.bool _ = Value.bool _
      rw [List.any_toArray, anyStr (e := isS d) (f := fun z => strIs z d) (fun _ _ => rfl) rv]
  · obtain ⟨its, rv, pl, _⟩ := I.tuple hs
    refine SeqAt.in_tupleAt (isS d) pl (fun y hy => ?_) ⟨.bl _, H, I, ?_, q⟩
    · obtain ⟨z, k, rfl⟩ := memStr rv (by simpa using hy)
      exact t.eqStr I rx (by show X.A.units + 1 < cLine; omega) z k
    · show Value.bool _ = Value.bool _
      rw [List.any_toArray, anyStr (e := isS d) (f := fun z => strIs z d) (fun _ _ => rfl) rv]
theorem op_notInS (hu : X.A.units + 1 < cLine) : OpR X (compareOp .NotIn) (fun x y H Q => ∃ (d : PyData) (a : Addr) (zs : List Str), Tr H x d ∧ y = .ref a ∧ (SqL X.K H a (zs.map V.str) ∨ SqT X.K H a (zs.map V.str)) ∧ Q (.bl (!zs.any fun z => strIs z d)) H) := by
  intro pz s σ H x y v u Q I rx ry h
  obtain ⟨d, a, zs, t, rfl, hs, q⟩ := h
  cases (show u = .ref a from ry)
  rcases hs with hs | hs
  · obtain ⟨its, rv, pl, _⟩ := I.list hs
    refine SeqAt.notIn_listAt (isS d) pl.isList (fun y hy => ?_) ⟨.bl _, H, I, ?_, q⟩
    · obtain ⟨z, k, rfl⟩ := memStr rv (by simpa using hy)
      exact t.eqStr I rx (by show X.A.units + 1 < cLine; omega) z k
    · show Value.bool _ = Value.bool _
      rw [List.any_toArray, anyStr (e := isS d) (f := fun z => strIs z d) (fun _ _ => rfl) rv]
  · obtain ⟨its, rv, pl, _⟩ := I.tuple hs
    refine SeqAt.notIn_tupleAt (isS d) pl (fun y hy => ?_) ⟨.bl _, H, I, ?_, q⟩
    · obtain ⟨z, k, rfl⟩ := memStr rv (by simpa using hy)
      exact t.eqStr I rx (by show X.A.units + 1 < cLine; omega) z k
    · show Value.bool _ = Value.bool _
      rw [List.any_toArray, anyStr (e := isS d) (f := fun z => strIs z d) (fun _ _ => rfl) rv]
end
end Pk
/-! ### repr of any data -/
namespace Pk
open PySem L2 PySem.Spec PyProof.Rows
section
variable {X : Cx} {pz : List (Addr × Obj)} {σ : L2.St} {H : Hp} {s : Shared}
mutual
theorem Tr.reprK (I : L2.Inv X pz σ H s) : ∀ {x : V} {d : PyData}, Tr H x d → ∀ v : Value, RelV x v → d.showable = true → d.shown.length ≤ sizeLine → ∃ bs, ReadAtMost s.heap d.depth bs ∧ ReprK X.prog X.w bs s.heap d.depth v d.shown
  | _, _, .non, v, r, _, _ => by
    cases (show v = .none from r)
    exact ⟨[], (fun _ h => nomatch h), by simp only [PyData.shown]; exact .of_is ReprIs.none _ _ _⟩
  | _, _, .bl b, v, r, _, _ => by
    cases (show v = .bool b from r)
    exact ⟨[], (fun _ h => nomatch h), by simp only [PyData.shown]; exact .of_is (ReprIs.bool b) _ _ _⟩
  | _, _, .int i, v, r, hs, _ => by
    obtain ⟨k, e⟩ := (show ∃ k, v = .int i k from r)
    cases e
    exact ⟨[], (fun _ h => nomatch h), by simp only [PyData.shown]; exact .of_is (ReprIs.int k (by simpa [PyData.showable] using hs)) _ _ _⟩
  | _, _, .str z, v, r, _, hz => by
    obtain ⟨k, e⟩ := (show ∃ k, v = .str z k from r)
    cases e
    exact ⟨[], (fun _ h => nomatch h), by simp only [PyData.shown]; exact .of_is (ReprIs.str z k (by simpa only [PyData.shown] using hz)) _ _ _⟩
  | _, _, @Tr.lst _ a xs ds h al, v, r, hs, hz => by
    cases (show v = .ref a from r)
    obtain ⟨_, its, n, rv, ho⟩ := (show ObjOk X.prog X.w H s.heap a (.lst xs) from I.hok a _ h)
    have zl : (listText (PyData.shownAll ds)).length ≤ sizeLine := by simpa only [PyData.shown] using hz
    obtain ⟨bs, hb, hk⟩ := TrAll.reprK I al its rv (by simpa [PyData.showable] using hs) (fun t ht => Nat.le_trans (listText_mem_le ht) zl)
    obtain ⟨as, r4⟩ := TrAll.reads I al its rv
    have r0 : Reads s.heap (.ref a) (.list ds) _ := .list ho rfl rfl (by simpa using r4)
    have na : a ∉ bs := not_mem_of_deeper r0 (by simp only [PyData.depth]; omega) hb
    refine ⟨a :: bs, ReadAtMost.cons r0 (by simp only [PyData.depth]; omega) hb, ?_⟩
    simp only [PyData.depth, PyData.shown]
    cases its with
    | nil =>
      cases r4
      simp only [PyData.shownAll, listText_nil]
      exact ReprK.listEmpty ho rfl rfl
    | cons y l => exact ReprK.list ho rfl rfl na (by simpa using hk.length_eq) (fun i y e => hk.item i y (by simpa using e))
  | _, _, @Tr.tup _ a xs ds h al, v, r, hs, hz => by
    cases (show v = .ref a from r)
    obtain ⟨_, its, rv, o, ho, hc, n, hd⟩ := (show ObjOk X.prog X.w H s.heap a (.tup xs) from h.ok I.hok)
    have zl : (tupleText (PyData.shownAll ds)).length ≤ sizeLine := by simpa only [PyData.shown] using hz
    obtain ⟨bs, hb, hk⟩ := TrAll.reprK I al its rv (by simpa [PyData.showable] using hs) (fun t ht => Nat.le_trans (tupleText_mem_le ht) zl)
    obtain ⟨as, r4⟩ := TrAll.reads I al its rv
    have r0 : Reads s.heap (.ref a) (.tuple ds) _ := .tuple ho hc hd (by simpa using r4)
    have na : a ∉ bs := not_mem_of_deeper r0 (by simp only [PyData.depth]; omega) hb
    refine ⟨a :: bs, ReadAtMost.cons r0 (by simp only [PyData.depth]; omega) hb, ?_⟩
    simp only [PyData.depth, PyData.shown]
    exact ReprK.tuple ho hc hd na (by simpa using hk)
  | _, _, @Tr.dct _ a kvs es h nd ek al, v, r, hs, hz => by
    cases (show v = .ref a from r)
    obtain ⟨_, hsys, vs, rel, o, des, ep, ho, hx, hd, _, pr, _⟩ := (show ObjOk X.prog X.w H s.heap a (.dK kvs) from I.hok a _ h)
    have zl : (dictText (PyData.shownKv es)).length ≤ sizeLine := by simpa only [PyData.shown] using hz
    obtain ⟨hs1, hs2⟩ := PyData.showableKv_split es (by simpa [PyData.showable] using hs)
    have r1 : ReadsAll s.heap (des.toList.map (·.key)) (es.map (·.1)) [] := by rw [ek]; exact reads_keys pr rel
    obtain ⟨b1, hb1, k1⟩ := ReprAllK.of_readsAll (prog := X.prog) (w := X.w) r1 hs1 (fun _ z => by cases z) (fun t ht => let ⟨p, hp, hl⟩ := PyData.shownKv_key_le es t ht; Nat.le_trans hl (Nat.le_trans (dictText_mem_le hp) zl))
    obtain ⟨b2, hb2, k2⟩ := TrAll.reprK I al _ (vals_of_pairs pr rel) hs2 (fun t ht => let ⟨p, hp, hl⟩ := PyData.shownKv_val_le es t ht; Nat.le_trans hl (Nat.le_trans (dictText_mem_le hp) zl))
    obtain ⟨as, r2⟩ := TrAll.reads I al _ (vals_of_pairs pr rel)
    have r0 : Reads s.heap (.ref a) (.dict es) _ := .dict ho hx.1 hd r1 r2
    have hb : ReadAtMost s.heap (PyData.depthKv es) (b1 ++ b2) := (hb1.mono (PyData.depthAll_keys_le es)).append (hb2.mono (PyData.depthAll_vals_le es))
    have na : a ∉ b1 ++ b2 := not_mem_of_deeper r0 (by simp only [PyData.depth]; omega) hb
    refine ⟨a :: (b1 ++ b2), ReadAtMost.cons r0 (by simp only [PyData.depth]; omega) hb, ?_⟩
    simp only [PyData.depth, PyData.shown, PyData.shownKv_eq]
    exact ReprK.dict ho hx.1 hd hsys na (ReprEntriesK.of_two des.toList _ _ (k1.more_le (fun b hb => List.mem_append_left _ hb) (PyData.depthAll_keys_le es)) (k2.more_le (fun b hb => List.mem_append_right _ hb) (PyData.depthAll_vals_le es)))
theorem TrAll.reprK (I : L2.Inv X pz σ H s) : ∀ {xs : List V} {ds : List PyData}, TrAll H xs ds → ∀ us : List Value, Vals xs us → PyData.showableAll ds = true → (∀ t ∈ PyData.shownAll ds, t.length ≤ sizeLine) →
    ∃ bs, ReadAtMost s.heap (PyData.depthAll ds) bs ∧ ReprAllK X.prog X.w bs s.heap (PyData.depthAll ds) us (PyData.shownAll ds)
  | _, _, .nil, us, r, _, _ => by
    cases r
    exact ⟨[], (fun _ h => nomatch h), by simp only [PyData.shownAll]; exact .nil⟩
  | _, _, @TrAll.cons _ x xs d ds h t, us, r, hs, hz => by
    cases r with
    | cons ra rb =>
      have hs' : d.showable = true ∧ PyData.showableAll ds = true := by simpa [PyData.showableAll] using hs
      obtain ⟨b1, hb1, k1⟩ := Tr.reprK I h _ ra hs'.1 (hz _ (by simp only [PyData.shownAll]; exact List.mem_cons_self ..))
      obtain ⟨b2, hb2, k2⟩ := TrAll.reprK I t _ rb hs'.2 (fun y hy => hz y (by simp only [PyData.shownAll]; exact List.mem_cons_of_mem _ hy))
      refine ⟨b1 ++ b2, ?_, ?_⟩
      · simp only [PyData.depthAll]
        exact (hb1.mono (Nat.le_max_left _ _)).append (hb2.mono (Nat.le_max_right _ _))
      · simp only [PyData.depthAll, PyData.shownAll]
        exact .cons ((k1.more fun b hb => List.mem_append_left _ hb).level_le (Nat.le_max_left _ _)) (k2.more_le (fun b hb => List.mem_append_right _ hb) (Nat.le_max_right _ _))
end
end
end Pk
namespace Pk
open PySem L2 PySem.Spec PyProof.Rows
/-- repr(x), x any data -/
theorem call_reprT {X : Cx} (hg : X.A.guards = some []) (hu : X.A.units + 100 < cLine) : CallR X (.builtin "repr") (fun xs H Q => ∃ (x : V) (d : PyData), xs = [x] ∧ Tr H x d ∧ d.showable = true ∧ d.depth ≤ 60 ∧ d.shown.length ≤ sizeLine ∧ Q (.str d.shown) H) := by
  intro pz s σ H xs us Q I r h
  obtain ⟨x, d, rfl, t, hs, hdep, hz, q⟩ := h
  cases r with
  | cons r1 r2 =>
  cases r2
  rename_i v
  have fin : ∀ (h' : Heap) (u tk : Tok), (∀ b o, s.heap.get? b = some o → h'.get? b = some o) → EP X pz σ Q (.str d.shown u) { s with heap := h', toks := tk } := fun h' u tk k => ⟨.str _, H, I.kept (t' := tk) k, ⟨u, rfl⟩, q⟩
  have fin0 : ∀ (u tk : Tok), EP X pz σ Q (.str d.shown u) { s with toks := tk } := fun u tk => fin s.heap u tk fun _ _ e => e
  cases t with
  | non =>
    cases (show v = .none from r1)
    simp only [PyData.shown] at fin0
    exact P.repr_of_none (fin0 _ _)
  | bl b =>
    cases (show v = .bool b from r1)
    simp only [PyData.shown] at fin0
    exact P.repr_of_bool (fin0 _ _)
  | int i =>
    obtain ⟨k, e⟩ := (show ∃ k, v = .int i k from r1)
    cases e
    simp only [PyData.shown] at fin0
    exact P.repr_of_int (by simpa [PyData.showable] using hs) (fin0 _ _)
  | str z =>
    obtain ⟨k, e⟩ := (show ∃ k, v = .str z k from r1)
    cases e
    simp only [PyData.shown] at fin0 hz
    exact P.repr_of_str (fin0 _ _) hz
  | @lst a xs ds h al =>
    cases (show v = .ref a from r1)
    obtain ⟨_, its, n, rv, ho⟩ := (show ObjOk X.prog X.w H s.heap a (.lst xs) from I.hok a _ h)
    have zl : (listText (PyData.shownAll ds)).length ≤ sizeLine := by simpa only [PyData.shown] using hz
    obtain ⟨bs, hb, hk⟩ := TrAll.reprK I al its rv (by simpa [PyData.showable] using hs) (fun t ht => Nat.le_trans (listText_mem_le ht) zl)
    obtain ⟨as, r4⟩ := TrAll.reads I al its rv
    have r0 : Reads s.heap (.ref a) (.list ds) _ := .list ho rfl rfl (by simpa using r4)
    have na : a ∉ bs := not_mem_of_deeper r0 (by simp only [PyData.depth]; omega) hb
    simp only [PyData.depth] at hdep
    simp only [PyData.shown] at fin
    refine call_repr_slot (by omega) ⟨_, ho, rfl⟩ F.slot_list_repr.toG ?_
    cases its with
    | nil =>
      cases r4
      simp only [listText_nil, PyData.shownAll] at fin
      exact call_list_repr_empty ⟨_, ho, rfl⟩ ho rfl ⟨_, _, rfl, fin s.heap _ _ fun _ _ e => e⟩
    | cons y l =>
      exact call_list_reprK (h₀ := s.heap) ho rfl rfl na (by simpa using hk.length_eq) (fun i y e => hk.item i y (by simpa using e)) hg (fun b _ => Clear.nil b) (by show X.A.units + 1 + (PyData.depthAll ds + 1) < cLine; omega) (fun _ _ e => e) (fun h' u tk k => ⟨_, _, rfl, fin h' u tk k⟩) zl
  | @tup a xs ds h al =>
    cases (show v = .ref a from r1)
    obtain ⟨_, its, rv, o, ho, hc, n, hd⟩ := (show ObjOk X.prog X.w H s.heap a (.tup xs) from h.ok I.hok)
    have zl : (tupleText (PyData.shownAll ds)).length ≤ sizeLine := by simpa only [PyData.shown] using hz
    obtain ⟨bs, hb, hk⟩ := TrAll.reprK I al its rv (by simpa [PyData.showable] using hs) (fun t ht => Nat.le_trans (tupleText_mem_le ht) zl)
    obtain ⟨as, r4⟩ := TrAll.reads I al its rv
    have r0 : Reads s.heap (.ref a) (.tuple ds) _ := .tuple ho hc hd (by simpa using r4)
    have na : a ∉ bs := not_mem_of_deeper r0 (by simp only [PyData.depth]; omega) hb
    simp only [PyData.depth] at hdep
    simp only [PyData.shown] at fin
    refine call_repr_slot (by omega) ⟨_, ho, hc⟩ F.slot_tuple_repr ?_
    exact call_tuple_reprK (h₀ := s.heap) ho hc hd na (by simpa using hk) hg (fun b _ => Clear.nil b) (by show X.A.units + 1 + (PyData.depthAll ds + 1) < cLine; omega) (fun _ _ e => e) (fun h' u tk k => ⟨_, _, rfl, fin h' u tk k⟩) zl
  | @dct a kvs es h nd ek al =>
    cases (show v = .ref a from r1)
    obtain ⟨_, hsys, vs, rel, o, des, ep, ho, hx, hd, _, pr, _⟩ := (show ObjOk X.prog X.w H s.heap a (.dK kvs) from I.hok a _ h)
    have zl : (dictText (PyData.shownKv es)).length ≤ sizeLine := by simpa only [PyData.shown] using hz
    obtain ⟨hs1, hs2⟩ := PyData.showableKv_split es (by simpa [PyData.showable] using hs)
    have rk : ReadsAll s.heap (des.toList.map (·.key)) (es.map (·.1)) [] := by rw [ek]; exact reads_keys pr rel
    obtain ⟨b1, hb1, k1⟩ := ReprAllK.of_readsAll (prog := X.prog) (w := X.w) rk hs1 (fun _ z => by cases z) (fun t ht => let ⟨p, hp, hl⟩ := PyData.shownKv_key_le es t ht; Nat.le_trans hl (Nat.le_trans (dictText_mem_le hp) zl))
    obtain ⟨b2, hb2, k2⟩ := TrAll.reprK I al _ (vals_of_pairs pr rel) hs2 (fun t ht => let ⟨p, hp, hl⟩ := PyData.shownKv_val_le es t ht; Nat.le_trans hl (Nat.le_trans (dictText_mem_le hp) zl))
    obtain ⟨as, r2⟩ := TrAll.reads I al _ (vals_of_pairs pr rel)
    have r0 : Reads s.heap (.ref a) (.dict es) _ := .dict ho hx.1 hd rk r2
    have hb : ReadAtMost s.heap (PyData.depthKv es) (b1 ++ b2) := (hb1.mono (PyData.depthAll_keys_le es)).append (hb2.mono (PyData.depthAll_vals_le es))
    have na : a ∉ b1 ++ b2 := not_mem_of_deeper r0 (by simp only [PyData.depth]; omega) hb
    simp only [PyData.depth] at hdep
    simp only [PyData.shown, PyData.shownKv_eq] at fin
    refine call_repr_slot (by omega) ⟨_, ho, hx.1⟩ F.slot_dict_repr ?_
    exact call_dict_reprK (h₀ := s.heap) ho hx.1 hd hsys na (ReprEntriesK.of_two des.toList _ _ (k1.more_le (fun b hb => List.mem_append_left _ hb) (PyData.depthAll_keys_le es)) (k2.more_le (fun b hb => List.mem_append_right _ hb) (PyData.depthAll_vals_le es)))
      hg (fun b _ => Clear.nil b) (by show X.A.units + 1 + (PyData.depthKv es + 1) < cLine; omega) (fun _ _ e => e) (fun h' u tk k => ⟨_, _, rfl, fin h' u tk k⟩) (by rw [← PyData.shownKv_eq]; exact zl)
/-! ### kinds -/
/-- the type's name -/
def tyD : PyData → String
  | .none => "NoneType"
  | .bool _ => "bool"
  | .int _ => "int"
  | .str _ => "str"
  | .list _ => "list"
  | .tuple _ => "tuple"
  | .dict _ => "dict"
theorem Tr.ty {K : PySem.W.Frag} {H : Hp} {x : V} {d : PyData} (t : Tr H x d) : TyX K H x (.type (tyD d)) := by
  cases t with
  | non => exact .base .non
  | bl b => exact .base (.bl b)
  | int i => exact .base (.int i)
  | str z => exact .base (.str z)
  | lst h _ => exact .base (.lst h)
  | tup h _ =>
    rcases h with h | ⟨o, h⟩
    · exact .base (.tup h)
    · exact .fTuple h
  | dct h _ _ _ => exact .base (.dK h)
/-- the answers of isinstance for the kinds of data -/
def isB : PyData → Bool
  | .bool _ => true
  | _ => false
def isI : PyData → Bool
  | .bool _ => true
  | .int _ => true
  | _ => false
def isStr : PyData → Bool
  | .str _ => true
  | _ => false
def isTup : PyData → Bool
  | .tuple _ => true
  | _ => false
def isLst : PyData → Bool
  | .list _ => true
  | _ => false
theorem kB : ∀ d : PyData, kitB (tyD d) "bool" = some (isB d) := by intro d; cases d <;> (simp only [tyD, isB]; decide +kernel)
theorem kI : ∀ d : PyData, kitB (tyD d) "int" = some (isI d) := by intro d; cases d <;> (simp only [tyD, isI]; decide +kernel)
theorem kS : ∀ d : PyData, kitB (tyD d) "str" = some (isStr d) := by intro d; cases d <;> (simp only [tyD, isStr]; decide +kernel)
theorem kT : ∀ d : PyData, kitB (tyD d) "tuple" = some (isTup d) := by intro d; cases d <;> (simp only [tyD, isTup]; decide +kernel)
theorem kL : ∀ d : PyData, kitB (tyD d) "list" = some (isLst d) := by intro d; cases d <;> (simp only [tyD, isLst]; decide +kernel)
/-- isinstance(e, T) -/
theorem call_isT {X : Cx} : CallR X (.builtin "isinstance") (fun xs H Q => ∃ (x : V) (T : String) (d : PyData) (g : PyData → Bool), xs = [x, .ty T] ∧ (∀ d, kitB (tyD d) T = some (g d)) ∧ Tr H x d ∧ Q (.bl (g d)) H) := by
  intro pz s σ H xs us Q I r h
  obtain ⟨x, T, d, g, rfl, hk, t, q⟩ := h
  exact call_isi pz s σ H _ us Q I r ⟨x, .ty T, _, _, _, rfl, .ty T, t.ty, kit_ty (hk d), q⟩
end Pk
/-! enumerate(a tuple) -/
namespace Pk
open PySem PySem.AutoSeq1
section
variable {prog : Program} {w : World} {A : Around} {E : Value → Shared → Prop} {s : Shared} {q t : Addr} {i : Nat} {its : Array Value}
theorem tupNext {x : Value} {Q : Value → Shared → Prop} (hq : s.heap.IsTupleIter q t i) (ht : s.heap.IsTuple t its) (hx : its[i]? = some x)
    (k : ∀ hz, hz.IsTupleIter q t (i + 1) → Heap.SameBut q s.heap hz → Q x { s with heap := hz }) : wpAny (model prog w) A (Builtin.SmallTypes.nextOf (.ref q)) Q E s := by
  obtain ⟨ob, g1, g2, g3⟩ := id hq
  obtain ⟨ot, g4, _, nt, g5⟩ := ht
  unfold Builtin.SmallTypes.nextOf
  refine wpAny_bind (wpAny_callSpecial?_slot (name := Str.ofString "__next__") hq.typeIs F.slot_tuple_iterator_next (wpAny_call_entry F.slot_tuple_iterator_next hq.typeIs F.entry_tuple_iterator_next ?_ (F.args_tuple_iterator_next_1 _)))
  show wpAny _ _ (field (.ref q) 0 >>= _) _ _ s
  refine wpAny_bind (wpAny_field g1 g3 (x := .ref t) rfl ?_)
  show wpAny _ _ (if (Value.ref t == Value.none) = true then _ else _) _ _ s
  rw [if_neg (show ¬ ((Value.ref t == Value.none) = true) from Bool.false_ne_true)]
  show wpAny _ _ (field (.ref q) 1 >>= _) _ _ s
  refine wpAny_bind (wpAny_field g1 g3 (x := .int i 0) rfl ?_)
  show wpAny _ _ (seqItems? (.ref t) >>= _) _ _ s
  refine wpAny_bind (wpAny_seqItems g4 g5 ?_)
  simp only [Int.toNat_natCast, hx]
  refine wpAny_bind (wpAny_setField g1 g3 (by simp) (wpAny_pure ⟨x, rfl, wpAny_pure (k _ ?_ (Heap.SameBut.update ..))⟩))
  exact ⟨_, Heap.get?_update_self _ g1 (Obj.isFreed_of_fields (Obj.data_mapFields g3 _)), (Obj.cls_mapFields ..).trans g2, by rw [Obj.data_mapFields g3]; simp [rawInt]⟩
theorem tupDone {Q : Value → Shared → Prop} (hh : A.handled = none) (hq : s.heap.IsTupleIter q t i) (ht : s.heap.IsTuple t its) (hx : its[i]? = none)
    (k : ∀ hz e, Heap.ExtBut q s.heap hz → (∃ o, hz.get? e = some o ∧ o.cls = .type "StopIteration") → E (.ref e) { s with heap := hz }) : wpAny (model prog w) A (Builtin.SmallTypes.nextOf (.ref q)) Q E s := by
  obtain ⟨ob, g1, g2, g3⟩ := id hq
  obtain ⟨ot, g4, _, nt, g5⟩ := ht
  unfold Builtin.SmallTypes.nextOf
  refine wpAny_bind (wpAny_callSpecial?_slot (name := Str.ofString "__next__") hq.typeIs F.slot_tuple_iterator_next (wpAny_call_entry F.slot_tuple_iterator_next hq.typeIs F.entry_tuple_iterator_next ?_ (F.args_tuple_iterator_next_1 _)))
  show wpAny _ _ (field (.ref q) 0 >>= _) _ _ s
  refine wpAny_bind (wpAny_field g1 g3 (x := .ref t) rfl ?_)
  show wpAny _ _ (if (Value.ref t == Value.none) = true then _ else _) _ _ s
  rw [if_neg (show ¬ ((Value.ref t == Value.none) = true) from Bool.false_ne_true)]
  show wpAny _ _ (field (.ref q) 1 >>= _) _ _ s
  refine wpAny_bind (wpAny_field g1 g3 (x := .int i 0) rfl ?_)
  show wpAny _ _ (seqItems? (.ref t) >>= _) _ _ s
  refine wpAny_bind (wpAny_seqItems g4 g5 ?_)
  simp only [Int.toNat_natCast, hx]
  refine wpAny_bind (wpAny_rule (wpAny_bind (wpAny_setField g1 g3 (by simp) ?_)))
  show wpAny _ _ (newExc (.type "StopIteration") [] >>= _) _ _ _
  refine wpAny_bind ?_
  simp only [newExc, newTuple]
  refine wpAny_bind (wpAny_newObj_type ?_ (by size_fits))
  refine wpAny_bind (m := firstArgMember _ _) (wpAny_of_eq (a := Value.none) (by first | rfl | (simp only [firstArgMember]; rfl)) ?_)
  refine wpAny_newObj_type ?_ (by size_fits)
  simp only [raiseNew]
  refine wpAny_bind (wpAny_handled ?_)
  first | rw [show A.in1.handled = none from hh] | rw [hh]
  refine wpAny_bind (wpAny_pure (wpAny_throw ?_))
  exact k _ _ (((Heap.SameBut.update ..).extBut.push _).push _) ⟨_, Heap.get?_push_size _ rfl, rfl⟩
end
theorem drawsTup {prog : Program} {w : World} {A : Around} (hh : A.handled = none) (q t : Addr) (hne : t ≠ q) (its : Array Value) : Draws prog w A q [q, t] its.size (fun i v => its[i]? = some v) (fun i h => h.IsTupleIter q t i ∧ h.IsTuple t its) where
  live := fun _ _ z => let ⟨o, ho, _⟩ := z.1; ⟨o, ho⟩
  frame := fun _ _ _ z hk => ⟨z.1.at fun o e => hk q (by simp) o e, let ⟨o, ho, r⟩ := z.2; ⟨o, hk t (by simp) o ho, r⟩⟩
  item := fun i s Q E hi z k => by
    refine tupNext z.1 z.2 (x := its[i]) (by simp [hi]) fun hz h1 h2 => ?_
    exact k _ hz s.toks (by simp [hi]) ⟨h1, let ⟨o, ho, r⟩ := z.2; ⟨o, (h2.2 t hne).trans ho, r⟩⟩ h2
  done := fun s Q E z k => tupDone hh z.1 z.2 (by simp) k
set_option maxHeartbeats 1000000 in
theorem enumNewTup (l : Addr) (its : Array Value) (n : Nat) (dd : Option Addr) (sl : Array (Option Value)) :
    Meets (Builtin.«enumerate.__new__» ⟨[.type "enumerate", .ref l], []⟩) (fun _ R s => s.heap.get? l = some { cls := .type "tuple", dict := dd, data := .seq its n, slots := sl } ∧
      R (.ok (.ret (.ref (s.heap.push { cls := .type "tuple_iterator", data := .fields #[.ref l, .int 0 0] }).objs.size)))
        { s with heap := (s.heap.push { cls := .type "tuple_iterator", data := .fields #[.ref l, .int 0 0] }).push { cls := .type "enumerate", data := .fields #[.none, .bool false, .ref s.heap.objs.size, rawInt 0, .none, .none] } }) :=
  .of_wp fun prog w A R s h => by
    obtain ⟨hp, g, d, tk, os⟩ := s
    obtain ⟨hl, h⟩ := h
    have hsub := sub_enumerate
    have hL : Heap.IsTuple (Shared.heap ⟨hp, g, d, tk, os⟩) l its := ⟨_, hl, rfl, n, rfl⟩
    wp_walk using wpAny_loadPart' hl
    refine wpAny_stack_any fun st => wpAny_pure ?_
    split
    · rename_i c _ _ _ _ _
      cases (c == Value.type "enumerate")
      · wp_walk using wpAny_loadPart' hl, wpAny_pyIter_tuple hL
        exact ⟨_, rfl, h⟩
      · wp_walk using wpAny_loadPart' hl, wpAny_pyIter_tuple hL
        exact ⟨_, rfl, h⟩
    · wp_walk using wpAny_loadPart' hl, wpAny_pyIter_tuple hL
      exact ⟨_, rfl, h⟩
theorem callEnumTup {prog : Program} {w : World} {A : Around} {E : Value → Shared → Prop} {s : Shared} {l : Addr} {its : Array Value} {Q : Value → Shared → Prop} (hL : s.heap.IsTuple l its)
    (k : ∀ hz, IsEnum hz (s.heap.objs.size + 1) s.heap.objs.size 0 .none → hz.IsTupleIter s.heap.objs.size l 0 → (∀ b o, s.heap.get? b = some o → hz.get? b = some o) → Q (.ref (s.heap.objs.size + 1)) { s with heap := hz }) :
    wpAny (model prog w) A (call (.type "enumerate") [.ref l]) Q E s := by
  obtain ⟨⟨c, dd, dt, sl⟩, hl, hc, n, hd⟩ := hL
  dsimp only at hc hd
  subst hc hd
  refine callType_new F.called_enumerate (by decide) (F.typeCall_enumerate_1 _) (F.newCall_enumerate_1 _) (fun obj => F.args_object_init_2 obj _) F.entry_enumerate_new (enumNewTup l its n dd sl) ⟨hl, ?_⟩
  have z1 : (s.heap.push { cls := .type "tuple_iterator", data := .fields #[.ref l, .int 0 0] }).objs.size = s.heap.objs.size + 1 := Heap.size_push ..
  show _ ∧ _
  rw [z1]
  have he : IsEnum ((s.heap.push { cls := .type "tuple_iterator", data := .fields #[.ref l, .int 0 0] }).push { cls := .type "enumerate", data := .fields #[.none, .bool false, .ref s.heap.objs.size, rawInt 0, .none, .none] }) (s.heap.objs.size + 1) s.heap.objs.size 0 .none := by
    have z2 := Heap.get?_push_size (s.heap.push { cls := .type "tuple_iterator", data := .fields #[.ref l, .int 0 0] }) (o := { cls := .type "enumerate", data := .fields #[.none, .bool false, .ref s.heap.objs.size, rawInt 0, .none, .none] }) rfl
    rw [z1] at z2
    exact z2
  exact ⟨⟨_, he, rfl⟩, k _ he ⟨_, Heap.get?_push_of_some _ (Heap.get?_push_size _ rfl), rfl, rfl⟩ fun b o x => Heap.get?_push_of_some _ (Heap.get?_push_of_some _ x)⟩
end Pk
namespace Pk
open PySem L2 PySem.Spec PyProof.Rows
/-- the items of the tuple at a, each with its number in a new pair -/
def IteT (K : PySem.W.Frag) (a : Addr) : It :=
  ⟨fun i H => ∃ (xs : List V) (x : V), SqT K H a xs ∧ xs[i]? = some x, fun i H v H' => ∃ T x, v = .ref T ∧ H T = none ∧ H' = upd H T (.tup [.int (i : Nat), x]) ∧ ∀ xs, SqT K H a xs → xs[i]? = some x, fun i H => ∃ xs : List V, SqT K H a xs ∧ xs.length ≤ i⟩
theorem turnEnumT {P : Program} {w : World} {K : PySem.W.Frag} {elts : List Expr} {kk : Nat} {tp : Pos} (a e it : Addr) :
    Turn P w K (.Tuple elts kk tp) (IteT K a) [e, it] e (fun i h => (∃ old, IsEnum h e it ((i : Nat) : Int) old) ∧ h.IsTupleIter it a i ∧ e ≠ it ∧ a ≠ it ∧ e ≠ a) where
  mem := by simp
  obj := fun i h z b hb => by
    obtain ⟨⟨old, he⟩, ⟨o, ho, hc, hd⟩, _⟩ := z
    rcases (show b = e ∨ b = it by simpa using hb) with y | y
    · rw [y]; exact ⟨_, he, fun v q => nomatch q⟩
    · rw [y]; exact ⟨o, ho, fun v q => by rw [hd] at q; cases q⟩
  keep := fun i h h' z k => let ⟨⟨old, he⟩, hi, hne⟩ := z; ⟨⟨old, k e (by simp) _ he⟩, hi.at fun o q => k it (by simp) o q, hne⟩
  item := by
    intro X hP hw hK hc i pz s σ H E I hf z hg
    subst hP hw hK
    obtain ⟨⟨old, he⟩, hit, hne, hai, hea⟩ := z
    obtain ⟨xs, x, hq, hx⟩ := hg
    obtain ⟨its, rv, p, hz⟩ := I.tuple hq
    obtain ⟨u, hu, ru⟩ := rv.get hx
    have l1 : e < s.heap.objs.size := Heap.lt_size he
    have l2 : it < s.heap.objs.size := by obtain ⟨_, y, _⟩ := hit; exact Heap.lt_size y
    have hlt : i < its.toArray.size := by
      have y := (List.getElem?_eq_some_iff.mp hu).1
      simpa using y
    refine wpAny_pyNext_enum_itemD (drawsTup (show X.A.in1.handled = none from I.ok.hd hc) it a hai its.toArray) he ⟨hit, p⟩ hlt hne (by simp; exact ⟨hne, hea⟩) fun y h' tk hy ho hs' hT hsz hk => ?_
    have eu : y = u := by
      have y1 : its.toArray[i]? = some u := by simpa using hu
      rw [hy] at y1
      exact Option.some.inj y1
    subst eu
    refine ⟨_, rfl, wpAny_letOwnedTupleGo_enum (s := { s with heap := h', toks := tk + 1 }) ho fun h'' he' sb => ?_⟩
    have hT2 : h''.get? s.heap.objs.size = some { cls := .type "tuple", data := .seq #[.int i tk, y] } := (sb.2 _ (Nat.ne_of_gt l1)).trans hT
    have new : ObjOk X.prog X.w (upd H s.heap.objs.size (.tup [.int (i : Nat), x])) h'' s.heap.objs.size (.tup [.int (i : Nat), x]) :=
      ⟨by show 2 ≤ sizeLine; decide, [.int i tk, y], .cons ⟨_, rfl⟩ (.cons ru .nil), ⟨_, hT2, rfl, _, rfl⟩⟩
    have Ia : L2.Inv X pz σ (upd H s.heap.objs.size (.tup [.int (i : Nat), x])) { s with heap := h'', toks := tk + 1 } :=
      I.turnedNew (ch := [e, it]) (fun b ob hb q => (sb.2 b (fun z => hb (by simp [z]))).trans (hk b ob (fun z => hb (by simp [z])) (fun z => hb (by simp [z])) q)) hf (Nat.le_refl _) new
    refine ⟨.ref s.heap.objs.size, _, Ia, rfl, ⟨_, x, rfl, I.hok.fresh (Nat.le_refl _), rfl, fun ys hy => by rw [I.tuple_inj hy hq]; exact hx⟩, ⟨⟨y, ?_⟩, hs'.1.at fun o q => (sb.2 it (Ne.symm hne)).trans q, hne, hai, hea⟩, fun b hb => ?_⟩
    · have y1 : ((i + 1 : Nat) : Int) = (i : Int) + 1 := by omega
      rw [y1]
      exact he'
    · have hb' : b < s.heap.objs.size := by
        rcases (show b = e ∨ b = it by simpa using hb) with z | z
        · rw [z]; exact l1
        · rw [z]; exact l2
      rw [upd_ne (Nat.ne_of_lt hb')]
      exact (hf b hb).1
  done := by
    intro X hP hw hK hc i pz s σ H E I hf z hg
    subst hP hw hK
    obtain ⟨⟨old, he⟩, hit, hne, hai, hea⟩ := z
    obtain ⟨xs, hq, hx⟩ := hg
    obtain ⟨its, rv, p, hz⟩ := I.tuple hq
    obtain ⟨f0, f1, f2, f3, f4, f5⟩ := hf it (by simp)
    have hl := rv.length
    have hT : s.TypeIs (.ref e) "enumerate" := ⟨_, he, rfl⟩
    unfold pyNext
    refine wpAny_bind (wpAny_attempt (wpAny_callSpecial?_slot (name := Str.ofString "__next__") hT F.slot_enumerate_next (wpAny_call_entry F.slot_enumerate_next hT F.entry_enumerate_next ?_ (F.args_enumerate_next_1 _))))
    show wpAny _ _ (field (.ref e) 2 >>= _) _ _ _
    refine wpAny_bind (wpAny_field he rfl (x := .ref it) rfl ?_)
    refine wpAny_bind (tupDone (show X.A.in1.handled = none from I.ok.hd hc) hit (show s.heap.IsTuple a its.toArray from p) (by simp; omega) fun h' x he' hx' => ?_)
    obtain ⟨o, ho, hcl⟩ := hx'
    refine wpAny_bind (wpAny_isInstance (T := "StopIteration") (b := true) ⟨o, ho, hcl⟩ isSubtype_stop ?_)
    exact wpAny_pure ⟨rfl, I.turned (t' := s.toks) (fun b o hb q => he' b o hb q) f0 f1 f3 f4 f5⟩
  self := fun A i s Q E z h => let ⟨⟨_, he⟩, _⟩ := z; wpAny_pyIter_enum he h
def iEnumT (K : PySem.W.Frag) (ta : TA) : TI := fun σ H R => ta σ H fun va Ha => ∃ a xs, va = [.ref a] ∧ SqT K Ha a xs ∧ R (IteT K a) Ha
theorem pi_enumT {X : Cx} {e : Expr} {ta : TA} {p pos tp : Pos} {elts : List Expr} {kk : Nat} (hg : Gl X "enumerate") (hm : X.mg "enumerate" = none) (ha : PA X [e] ta) (hs : starEach [e] X.env = [(false, eval e X.env)] := by rfl) :
    PI X (.Tuple elts kk tp) (.Call (.Name "enumerate" p) [e] [] pos) (iEnumT X.K ta) := by
  refine ⟨fun pz s σ H R I h => ?_⟩
  refine Call_ (ld_blt I hg hm boot_enumerate (PyProof.Rows.callWith_type1 (thn (ha.run pos pz s σ H _ I h) fun ua sa ⟨va, Ha, Ia, ra, qa⟩ => ?_) hs rfl))
  obtain ⟨a, xs, ex, hq, q⟩ := qa
  subst ex
  cases ra with
  | cons r rr =>
    cases rr
    cases (show _ = Value.ref a from r)
    obtain ⟨its, rv, p', hz⟩ := Ia.tuple hq
    have la : a < sa.heap.objs.size := by obtain ⟨_, y, _⟩ := p'; exact Heap.lt_size y
    refine callEnumTup p' fun hz' he hit hk => wpAny_pyIter_enum he ?_
    have Ib : L2.Inv X pz σ Ha { sa with heap := hz' } := Ia.kept (t' := sa.toks) hk
    refine ⟨sa.heap.objs.size + 1, [sa.heap.objs.size + 1, sa.heap.objs.size], _, _, Ha, rfl, Ib, turnEnumT a (sa.heap.objs.size + 1) sa.heap.objs.size, ⟨⟨.none, he⟩, hit, Nat.succ_ne_self _, Nat.ne_of_lt la, Nat.ne_of_gt (Nat.lt_succ_of_lt la)⟩, fun b hb => ?_, q⟩
    have hle : sa.heap.objs.size ≤ b := by
      rcases (show b = sa.heap.objs.size + 1 ∨ b = sa.heap.objs.size by simpa using hb) with z | z
      · rw [z]; exact Nat.le_succ _
      · rw [z]; exact Nat.le_refl _
    exact Ia.fpOk hle (Ia.hok.fresh hle)
end Pk
namespace Pk
open PySem L2 PySem.Spec PyProof.Rows GxR
/-- 'a' <= sign <= 'z' -/
def smallC (c : Nat) : Bool := decide (97 ≤ c) && decide (c ≤ 122)
theorem lt1 (a b : Nat) : decide (([a] : List Nat) < [b]) = decide (a < b) := by
  by_cases h : a < b
  · rw [decide_eq_true h]
    exact decide_eq_true (by simp [List.cons_lt_cons_iff, h])
  · rw [decide_eq_false h]
    exact decide_eq_false (by simp [List.cons_lt_cons_iff, h])
theorem elt_az {prog : Program} {w : World} {scope : Scope} {x : Str} {j1 j2 : Nat} {p1 p2 p3 p4 : Pos} (hk : scope.kind = .function) (hl : scope.names.lookup x = some .local) (hd : (x == ("__debug__" : Str)) = false := by decide) :
    EltP prog w scope x (.Compare (.Constant (.str "a") j1 p1) [.LtE, .LtE] [.Name x p2, .Constant (.str "z") j2 p3] p4) smallC := by
  intro cenv A' E' c t sz m hs hn hm
  have e1 : (!decide ((⟨#[c]⟩ : Str).cps.toList < ("a" : Str).cps.toList)) = decide (97 ≤ c) := by
    show (!decide ([c] < [97])) = decide (97 ≤ c)
    rw [lt1]
    by_cases h : c < 97
    · rw [decide_eq_true h, decide_eq_false (by omega)]; rfl
    · rw [decide_eq_false h, decide_eq_true (by omega)]; rfl
  have e2 : (!decide (("z" : Str).cps.toList < (⟨#[c]⟩ : Str).cps.toList)) = decide (c ≤ 122) := by
    show (!decide ([122] < [c])) = decide (c ≤ 122)
    rw [lt1]
    by_cases h : 122 < c
    · rw [decide_eq_true h, decide_eq_false (by omega)]; rfl
    · rw [decide_eq_false h, decide_eq_true (by omega)]; rfl
  refine Compare_chain (Calls.Constant_str (chain_link (wpAny_Name (wpAny_loadName_local (by rw [hs]; exact hk) (show cenv.scope.names.lookup x = some .local by rw [hs]; exact hl) hn hm ?_) hd))) (by with_unfolding_all rfl)
  refine PySem.P.le_str ?_
  rw [e1]
  refine wpAny_truthy_bool ?_
  cases h1 : decide (97 ≤ c) with
  | false => exact ite_ff ⟨by unfold smallC; rw [h1]; rfl, keeps_tok _ _⟩
  | true =>
    refine ite_tt (chain_last (Calls.Constant_str (PySem.P.le_str ?_)))
    rw [e2]
    exact ⟨by unfold smallC; rw [h1]; rfl, keeps_tok _ _⟩
/-! ### x in a tuple of data -/
section
variable {X : Cx}
theorem op_inDT (hu : X.A.units + 65 < cLine) : OpR X (compareOp .In) (fun x y H Q => ∃ (d : PyData) (ds : List PyData), Dp X.K H x d ∧ Dp X.K H y (.tuple ds) ∧ SeqAt.shaped d = true ∧ SeqAt.shaped (.tuple ds) = true ∧ Q (.bl (ds.any fun z => PyData.eqv z d)) H) := by
  intro pz s σ H x y v u Q I rx ry h
  obtain ⟨d, ds, hd, he, sd, se, q⟩ := h
  obtain ⟨as, r1⟩ := Dp.reads I d x v hd rx
  obtain ⟨bs, r2⟩ := Dp.reads I (.tuple ds) y u he ry
  exact SeqAt.in_tuple_reads r2 r1 (SeqAt.canLay_of_shaped se) (SeqAt.canLay_of_shaped sd) (room_in_shaped sd hu) ⟨.bl _, H, I, rfl, q⟩
end
end Pk
namespace Pk
open PySem L2 PySem.Spec PyProof.Rows
/-- the law's call from outside, with tables of code objects (cs: code object, its table) -/
theorem lawGT {P : Program} {w : World} {K : PySem.W.Frag} {mg mb : Str → Option Value} {k : Nat} {fa a : Addr} {cs : List (Addr × Addr)} {fd : FuncData} {x : Str} {sp : Sp} {sz : Shared} {va : List Value} {ns : List Int}
    (inK : K.In sz.heap) (hn : sz.heap.Ns mainGlobals mg) (hbn : sz.heap.Ns builtinsNs mb) (hbb : ∀ x : Str, x ≠ "__name__" → mb x = bootBuiltins x) (noL : sz.heap.NoLimit) (hgn : sz.gens = #[])
    (tabs : ∀ p ∈ cs, sz.heap.get? p.2 = some { cls := .none, data := .fields #[] }) (notK : ∀ p ∈ cs, K.lookup p.2 = none) (hds : ∀ p ∈ cs, PySem.W.CodeHd sz.heap p.1 p.2)
    (hbm : ∃ (bm : Addr) (ob : Obj), mg "__builtins__" = some (.ref bm) ∧ bm ≠ builtinsNs ∧ sz.heap.get? bm = some ob ∧ ob.cls = .type "module" ∧ ob.dict = some builtinsNs ∧ ob.data = .plain)
    (ha : sz.heap.get? a = some { cls := .type "list", data := .seq va.toArray }) (hi : IntsAre va ns) (hl : ns.length ≤ sizeLine) (hr : Room k callerA)
    (G : ∀ bs : Heap, K.In bs → bs.Ns mainGlobals mg → (∀ p ∈ cs, GxR.TabB bs mg p.1 p.2) → FnG P w K mg bs k fa fd [x] sp) (hbt : ∀ (s : Shared) (u : Value), BindsTo s fd ⟨[u], []⟩ [(x, u)])
    (hq : ∀ H : Hp, (∀ p ∈ cs, H p.2 = some (.tbl #[])) → SqL K H a (ns.map V.int) → sp [.ref a] H (fun v _ => v = .bl true) fun _ _ _ => False) :
    codeAny (model P w) callerA (.call (.ref fa) ⟨[.ref a], []⟩) (fun r s' => r = .ok (.ret (.bool true)) ∧ OldK sz.heap s'.heap ∧ s'.os = sz.os ∧ AllBare s'.gens) sz := by
  have rr := vals_ints hi
  have ln := hi.length
  have isTab : ∀ b : Addr, b ∈ cs.map (·.2) → sz.heap.get? b = some { cls := .none, data := .fields #[] } := fun b hb => by
    obtain ⟨p, hp, e⟩ := List.mem_map.mp hb
    subst e
    exact tabs p hp
  have noTab : a ∉ cs.map (·.2) := fun z => by
    have y := (isTab a z).symm.trans ha
    cases y
  have inT : ∀ p ∈ cs, p.2 ∈ cs.map (·.2) := fun p hp => List.mem_map.mpr ⟨p, hp, rfl⟩
  have main : ∀ H : Hp, (∀ p ∈ cs, H p.2 = some (.tbl #[])) → (∀ b u, H b = some u → b ∈ cs.map (·.2) ∨ (b = a ∧ ∃ o xs, u = .frz o (.lst xs))) → SqL K H a (ns.map V.int) → HOk P w H sz.heap → (H a ≠ none → K.lookup a = none) →
      codeAny (model P w) callerA (.call (.ref fa) ⟨[.ref a], []⟩) (fun r s' => r = .ok (.ret (.bool true)) ∧ OldK sz.heap s'.heap ∧ s'.os = sz.os ∧ AllBare s'.gens) sz := by
    intro H hT only hS hok hK
    have free : ∀ {b : Addr} {o : Obj}, sz.heap.get? b = some o → (∀ v n, o.data ≠ .seq v n) → o.data ≠ .fields #[] → H b = none := fun {b o} e n1 n2 => by
      cases z : H b with
      | none => rfl
      | some u =>
        rcases only b u z with y | ⟨y, _⟩
        · rw [isTab b y] at e
          cases e
          exact (n2 rfl).elim
        · rw [y, ha] at e
          cases e
          exact (n1 _ _ rfl).elim
    have freeD : ∀ {b : Addr} {o : Obj} {es : Array DictEntry} {ep : Nat}, sz.heap.get? b = some o → o.data = .dict es ep → H b = none := fun {b o es ep} e d => free e (fun v n z => by rw [d] at z; cases z) fun z => by rw [d] at z; cases z
    have nsB : ∀ {b : Addr} {m : Str → Option Value}, sz.heap.Ns b m → (hidT sz.heap H).Ns b m := fun {b m} ⟨o, es, ep, e, d, z⟩ => ⟨o, es, ep, hidT_get e (freeD e d), d, z⟩
    have kB : K.In (hidT sz.heap H) := fun b o e => hidT_get (inK b o e) (by
      cases z : H b with
      | none => rfl
      | some u =>
        rcases only b u z with y | ⟨y, _⟩
        · obtain ⟨p, hp, ep⟩ := List.mem_map.mp y
          subst ep
          rw [notK p hp] at e
          cases e
        · subst y
          rw [hK (by rw [z]; simp)] at e
          cases e)
    have md : L2.Mod K mg (hidT sz.heap H) := ⟨kB, nsB hn, ⟨mb, nsB hbn, hbb⟩, let ⟨mc, z1, z2⟩ := noL; ⟨mc, nsB z1, z2⟩⟩
    have tb : ∀ p ∈ cs, GxR.TabB (hidT sz.heap H) mg p.1 p.2 := fun p hp => by
      have tp := tabs p hp
      refine ⟨?_, ?_, fun z => ?_⟩
      · obtain ⟨o, us, file, tf, flags, tg, inF, text, tt, e1, g1, g2, g3, g4, g5, g6, g7, g8, g9⟩ := hds p hp
        refine ⟨o, us, file, tf, flags, tg, inF, text, tt, hidT_get e1 (free e1 (fun v n z => ?_) fun z => ?_), g1, g2, g3, g4, g5, g6, g7, g8, g9⟩
        · rw [g2] at z
          cases z
        · rw [g2] at z
          cases z
          simp at g3
      · obtain ⟨bm, ob, b1, b2, b3, b4, b5, b6⟩ := hbm
        have n1 : bm ≠ mainGlobals := fun q => by
          obtain ⟨o, es, ep, e, hd, _⟩ := hn
          subst q
          rw [e] at b3
          cases b3
          rw [hd] at b6
          cases b6
        have n2 : bm ≠ p.2 := fun q => by
          subst q
          rw [tp] at b3
          cases b3
          cases b6
        exact ⟨bm, ob, b1, b2, n1, n2, hidT_get b3 (free b3 (fun v n z => by rw [b6] at z; cases z) fun z => by rw [b6] at z; cases z), b4, b5, b6⟩
      · obtain ⟨o, es, ep, e, hd, _⟩ := hn
        rw [z, tp] at e
        cases e
        cases hd
    have ez : Env0 P w K mg (hidT sz.heap H) callerA [] sz H := ⟨rfl, md, fun b o e => of_hidT e, Nat.le_of_eq (hidT_size _ _), trivial, fun b hb => absurd (show b ∈ ([] : List Addr) from hb) (by simp), hok, .of_eq hgn⟩
    refine codeAny_mono ((G _ kB (nsB hn) tb).run callerA [] sz H ⟨[.ref a], []⟩ [.ref a] [.ref a] _ _ rfl hr ez (hbt sz (.ref a)) (.cons rfl .nil) (hq H hT hS)) fun rz sy hy => ?_
    cases rz with
    | error e => exact hy.elim
    | ok fl =>
      cases fl with
      | next => exact hy.elim
      | brk => exact hy.elim
      | cont => exact hy.elim
      | ret u =>
        obtain ⟨v, Hy, osy, bry, un, oky, rv, qy⟩ := hy
        cases (show v = .bl true from qy)
        cases (show u = Value.bool true from rv)
        have same : ∀ b o, b ∉ cs.map (·.2) → sz.heap.get? b = some o → sy.heap.get? b = some o := fun b o nb e => by
          cases z : H b with
          | none => exact un.keep b o e z (fun q => absurd (show b ∈ ([] : List Addr) from q) (by simp)) (by simp)
          | some u =>
            rcases only b u z with y | ⟨_, ob, xs, y⟩
            · exact absurd y nb
            · subst y
              obtain ⟨g1, _⟩ := hok b _ z
              obtain ⟨g2, _⟩ := oky b _ (un.frzs b ob _ z)
              rw [e] at g1
              cases g1
              exact g2
        have grown : ∀ p ∈ cs, ∃ more : Array Value, sy.heap.get? p.2 = some { cls := .none, data := .fields more } := fun p hp => by
          obtain ⟨more, z⟩ := un.tbls p.2 #[] (hT p hp)
          exact ⟨_, oky p.2 _ z⟩
        refine ⟨rfl, ⟨fun b o e => ?_, fun b o e => ?_⟩, osy, bry⟩
        · by_cases hb : b ∈ cs.map (·.2)
          · obtain ⟨p, hp, ep⟩ := List.mem_map.mp hb
            subst ep
            obtain ⟨more, hm⟩ := grown p hp
            rw [tabs p hp] at e
            cases e
            exact .inr (.inl ⟨((hds p hp).tab (tabs p hp)).isCodeTable, rfl, #[], more, rfl, by rw [Array.empty_append]; exact hm⟩)
          · exact .inl (same b o hb e)
        · by_cases hb : b ∈ cs.map (·.2)
          · obtain ⟨p, hp, ep⟩ := List.mem_map.mp hb
            subst ep
            obtain ⟨more, hm⟩ := grown p hp
            exact ⟨_, hm⟩
          · exact ⟨o, same b o hb e⟩
  cases hk : K.lookup a with
  | some o =>
    have e := inK a o hk
    rw [ha] at e
    cases e
    refine main (fun b => if b ∈ cs.map (·.2) then some (.tbl #[]) else none) (fun p hp => if_pos (inT p hp)) (fun b u z => ?_) (.inr ⟨_, va.toArray, _, hk, rfl, rfl, rfl, by rw [List.size_toArray, ln]; exact hl, by simpa using rr⟩) (fun b u z => ?_) fun z => absurd (show (if a ∈ cs.map (·.2) then some (HO.tbl #[]) else none) = none from if_neg noTab) z
    · by_cases hb : b ∈ cs.map (·.2)
      · exact .inl hb
      · cases (if_neg hb).symm.trans z
    · by_cases hb : b ∈ cs.map (·.2)
      · cases (if_pos hb).symm.trans z
        exact isTab b hb
      · cases (if_neg hb).symm.trans z
  | none =>
    refine main (fun b => if b = a then some (.frz { cls := .type "list", data := .seq va.toArray } (.lst (ns.map V.int))) else if b ∈ cs.map (·.2) then some (.tbl #[]) else none)
      (fun p hp => (if_neg (show ¬ p.2 = a from fun z => noTab (by rw [← z]; exact inT p hp))).trans (if_pos (inT p hp))) (fun b u z => ?_) (.inl (.inr ⟨{ cls := .type "list", data := .seq va.toArray }, if_pos rfl⟩)) (fun b u z => ?_) fun _ => hk
    · by_cases hb : b = a
      · cases (if_pos hb).symm.trans z
        exact .inr ⟨hb, _, _, rfl⟩
      · by_cases hb2 : b ∈ cs.map (·.2)
        · exact .inl hb2
        · cases ((if_neg hb).trans (if_neg hb2)).symm.trans z
    · by_cases hb : b = a
      · cases (if_pos hb).symm.trans z
        subst hb
        exact ⟨ha, by rw [List.length_map]; exact hl, va, _, rr, ha⟩
      · by_cases hb2 : b ∈ cs.map (·.2)
        · cases ((if_neg hb).trans (if_pos hb2)).symm.trans z
          exact isTab b hb2
        · cases ((if_neg hb).trans (if_neg hb2)).symm.trans z
/-- the goal that the head leaves, from the law's promise; nms: the defs that hold generator expressions -/
theorem walkGT {l : PySem.W.OpenLaw} {n k : Nat} {q : Program} {loose : List Str} {XP : (Str → Option Value) → Heap → Prop} {YP : World → Heap → Prop} {d : DefRec} {K : Params → PySem.W.Frag} {sp : PySem.W.Frag → List (Addr × Addr) → Sp} {x : Str}
    (hr : Room k callerA) (hn : l.most = some n) (hn2 : n ≤ sizeLine) (hdf : d.params.defaults = []) (hY : ∀ (w : World) (h : Heap), YP w h → (K w.params).In h)
    (G : ∀ (w : World) (mg : Str → Option Value) (fa : Addr) (h : Heap), (K w.params).In h → h.Ns mainGlobals mg → mg d.name = some (.ref fa) →
      ∃ (fd : FuncData) (cs : List (Addr × Addr)), (∀ p ∈ cs, ∃ (y : Str) (dr : DefRec), (recsOf q).find? (fun e => e.name == y) = some dr ∧ PySem.W.tabIn (K w.params) y = some p ∧ (K w.params).lookup p.2 = none) ∧
        (∀ (s : Shared) (u : Value), BindsTo s fd ⟨[u], []⟩ [(x, u)]) ∧ ∀ bs : Heap, (K w.params).In bs → bs.Ns mainGlobals mg → (∀ p ∈ cs, GxR.TabB bs mg p.1 p.2) → FnG l.prog w (K w.params) mg bs k fa fd [x] (sp (K w.params) cs))
    (hq : ∀ (K : PySem.W.Frag) (cs : List (Addr × Addr)) (H : Hp) (a : Addr) (ns : List Int), ns.length ≤ n → (∀ p ∈ cs, H p.2 = some (.tbl #[])) → SqL K H a (ns.map V.int) → sp K cs [.ref a] H (fun v _ => v = .bl true) fun _ _ _ => False) :
    PySem.W.WalkO q loose XP YP l.row.toRowW d [] (fun f va => PySem.call f va) := by
  refine Att.attach_call hn hdf fun w sy sz mg mb fa o pm cd doc a va ns Gr Y ho hd hcd hmg hob hin hle hgn => ?_
  have inK := hY w _ Y
  obtain ⟨fd, cs, hcs, hbt, hG⟩ := G w mg fa _ inK Gr.T.g hmg
  have tb : ∀ p ∈ cs, PySem.W.CodeHd sz.heap p.1 p.2 ∧ sz.heap.get? p.2 = some { cls := .none, data := .fields #[] } := fun p hp => by
    obtain ⟨y, dr, h1, h2, _⟩ := hcs p hp
    exact PySem.W.tab_of Gr.T inK h1 h2
  exact lawGT inK Gr.T.g Gr.T.b Gr.T.builtins Gr.T.nolimit hgn (fun p hp => (tb p hp).2) (fun p hp => let ⟨_, _, _, _, z⟩ := hcs p hp; z) (fun p hp => (tb p hp).1) Gr.T.bmain hob hin (Nat.le_trans hle hn2) hr hG hbt fun H hT hS => hq _ cs H a ns hle hT hS
end Pk
/-! The mirror: what is a house, told of data. -/
namespace Pk
open PySem
def wholeD (lo hi : Int) : PyData → Bool
  | .int i => decide (lo ≤ i) && decide (i ≤ hi)
  | _ => false
def tupD (a b : Int) : PyData → Bool
  | .tuple ds => decide (a ≤ (ds.length : Int)) && decide ((ds.length : Int) ≤ b)
  | _ => false
def nameD : PyData → Bool
  | .str z => decide ((1 : Int) ≤ (z.length : Int)) && (decide ((z.length : Int) ≤ 8) && z.cps.toList.all smallC)
  | _ => false
def inS (zs : List Str) (d : PyData) : Bool := zs.any fun z => strIs z d
def farS : Int := 1000000000000000000
def greatS : Int := 100000000000000000000
def ways3 : List Str := ["both", "up", "down"]
def sorts2 : List Str := ["least", "most"]
def pairs3 : List Str := ["off", "most", "least"]
/-- a dial's numbers -/
def dialR : PyData → PyData → PyData → PyData → Bool
  | .int l, hi, up, down => wholeD (-farS) farS (.int l) && (wholeD l farS hi && (wholeD 1 1000000 up && wholeD 1 1000000 down))
  | _, _, _, _ => false
def dialD : PyData → Bool
  | .tuple [n, lo, hi, way, up, down] => nameD n && (inS ways3 way && dialR lo hi up down)
  | _ => false
def sayingD (ns : List Str) : PyData → Bool
  | .tuple [n, s, i] => inS ns n && (inS sorts2 s && wholeD (-greatS) greatS i)
  | _ => false
/-- two data that are the same text -/
def sameS : PyData → PyData → Bool
  | .str a, .str b => a == b
  | _, _ => false
def ruleD (ns : List Str) : PyData → Bool
  | .tuple [w, p, q] => strIs "one" w && (sayingD ns p && sayingD ns q)
  | .tuple [w, a, b, c] => inS pairs3 w && (inS ns a && (inS ns b && (!sameS a b && wholeD (-greatS) greatS c)))
  | _ => false
def formD : PyData → Bool
  | .tuple [d, r] => tupD 1 12 d && tupD 0 40 r
  | _ => false
/-- the name of a dial, as a text -/
def nameOf : PyData → Str
  | .tuple (.str z :: _) => z
  | _ => ""
/-- text below or alike -/
def leS (a b : Str) : Bool := !decide (b.cps.toList < a.cps.toList)
/-- the first faulty dial, from the k-th on; prev: the one ahead -/
def fDial (k : Nat) (prev : Option Str) : List PyData → Option Nat
  | [] => none
  | d :: ds => if dialD d = true then (match prev with
      | some p => if leS (nameOf d) p = true then some k else fDial (k + 1) (some (nameOf d)) ds
      | none => fDial (k + 1) (some (nameOf d)) ds) else some k
/-- the first faulty rule, from the k-th on, past: those ahead -/
def fRule (ns : List Str) (k : Nat) (past : List PyData) : List PyData → Option Nat
  | [] => none
  | r :: rs => if ruleD ns r = true then (if (past.any fun z => PyData.eqv z r) = true then some k else fRule ns (k + 1) (past ++ [r]) rs) else some k
def dialsOf : PyData → List PyData
  | .tuple (.tuple ds :: _) => ds
  | _ => []
def rulesOf : PyData → List PyData
  | .tuple [_, .tuple rs] => rs
  | _ => []
def faultD (d : PyData) : PyData :=
  if formD d = true then (match fDial 0 none (dialsOf d) with
    | some k => .tuple [.str "dial", .int k]
    | none => match fRule ((dialsOf d).map nameOf) 0 [] (rulesOf d) with
      | some k => .tuple [.str "rule", .int k]
      | none => .none)
  else .tuple [.str "house"]
end Pk
namespace Pk
open PySem L2
def topH (i : Nat) : Stmt := PySem.Challenge.pw_pawldials_k06_standings_near.main.body.getD i (.Pass ⟨0, 0, 0, 0⟩)
abbrev sWhole : Stmt := topH 1
abbrev sTupOf : Stmt := topH 2
abbrev sIsName : Stmt := topH 23
abbrev sPrice : Stmt := topH 24
abbrev sIsDial : Stmt := topH 25
abbrev sIsSaying : Stmt := topH 26
abbrev sIsRule : Stmt := topH 27
abbrev sForm : Stmt := topH 34
abbrev sFDial : Stmt := topH 35
abbrev sFRule : Stmt := topH 36
abbrev sFault : Stmt := topH 37
/-- the built-in names that these defs ask -/
structure BltH (mg : Str → Option Value) : Prop where
  isinstance : mg "isinstance" = none
  bool : mg "bool" = none
  int : mg "int" = none
  str : mg "str" = none
  tuple : mg "tuple" = none
  list : mg "list" = none
  len : mg "len" = none
  all : mg "all" = none
  enumerate : mg "enumerate" = none
/-- the module's own constants -/
structure Cons (K : PySem.W.Frag) (mg : Str → Option Value) (W S R : Addr) : Prop where
  far : ∃ t, mg "FARTHEST" = some (.int farS t)
  great : ∃ t, mg "GREATEST" = some (.int greatS t)
  dear : ∃ t, mg "DEAREST" = some (.int 1000000 t)
  long : ∃ t, mg "LONGEST_NAME" = some (.int 8 t)
  dials : ∃ t, mg "MOST_DIALS" = some (.int 12 t)
  rules : ∃ t, mg "MOST_RULES" = some (.int 40 t)
  mW : mg "WAYS" = some (.ref W)
  mS : mg "SORTS" = some (.ref S)
  mR : mg "PAIR_RULES" = some (.ref R)
  ways : ∀ H, SqT K H W (ways3.map V.str)
  sorts : ∀ H, SqT K H S (sorts2.map V.str)
  pairs : ∀ H, SqT K H R (pairs3.map V.str)
def spWhole : Sp := fun vs H Q _ => ∃ (x : V) (d : PyData) (lo hi : Int), vs = [x, .int lo, .int hi] ∧ Tr H x d ∧ Q (.bl (wholeD lo hi d)) H
def spTupOf : Sp := fun vs H Q _ => ∃ (x : V) (d : PyData) (a b : Int), vs = [x, .int a, .int b] ∧ Tr H x d ∧ Q (.bl (tupD a b d)) H
def spPrice : Sp := fun vs H Q _ => ∃ (x : V) (d : PyData), vs = [x] ∧ Tr H x d ∧ Q (.bl (wholeD 1 1000000 d)) H
/-- all stays, but a table may grow -/
def Gr (P : Addr) (H H' : Hp) : Prop := GxR.TabG H' P ∧ ∀ b o, b ≠ P → H b = some o → H' b = some o
theorem Gr.of {P : Addr} {H H' : Hp} (h : GxR.Tabbed P H H') : Gr P H H' := ⟨h.1, fun b o hb e => by rw [h.2 b hb]; exact e⟩
theorem Gr.refl {P : Addr} {H : Hp} (h : GxR.TabG H P) : Gr P H H := ⟨h, fun _ _ _ e => e⟩
theorem Gr.trans {P : Addr} {H H1 H2 : Hp} (a : Gr P H H1) (b : Gr P H1 H2) : Gr P H H2 := ⟨b.1, fun c o hc e => b.2 c o hc (a.2 c o hc e)⟩
theorem Gr.same {P : Addr} {H H' : Hp} (t : GxR.TabG H P) (s : Same H H') : Gr P H H' := ⟨let ⟨ps, h1, h2⟩ := t; ⟨ps, s _ _ h1, h2⟩, fun b o _ e => s b o e⟩
theorem _root_.L2.Rd.gr {P : Addr} {H H' : Hp} {a : Addr} {xs : List V} (t : GxR.TabG H P) (g : Gr P H H') (h : Rd H a (.tup xs)) : Rd H' a (.tup xs) := by
  rcases h with h | ⟨o, h⟩
  · exact .inl (g.2 _ _ (let ⟨_, z, _⟩ := t; ne_of h z (by intro y; cases y)) h)
  · exact .inr ⟨o, g.2 _ _ (let ⟨_, z, _⟩ := t; ne_of h z (by intro y; cases y)) h⟩
mutual
theorem Tr.gr {P : Addr} {H H' : Hp} (t : GxR.TabG H P) (g : Gr P H H') : ∀ {v : V} {d : PyData}, Tr H v d → Tr H' v d
  | _, _, .non => .non
  | _, _, .bl b => .bl b
  | _, _, .int i => .int i
  | _, _, .str x => .str x
  | _, _, .lst h a => .lst (g.2 _ _ (let ⟨_, z, _⟩ := t; ne_of h z (by intro y; cases y)) h) (TrAll.gr t g a)
  | _, _, .tup h a => .tup (h.gr t g) (TrAll.gr t g a)
  | _, _, .dct h n e a => .dct (g.2 _ _ (let ⟨_, z, _⟩ := t; ne_of h z (by intro y; cases y)) h) n e (TrAll.gr t g a)
theorem TrAll.gr {P : Addr} {H H' : Hp} (t : GxR.TabG H P) (g : Gr P H H') : ∀ {vs : List V} {ds : List PyData}, TrAll H vs ds → TrAll H' vs ds
  | _, _, .nil => .nil
  | _, _, .cons h u => .cons (Tr.gr t g h) (TrAll.gr t g u)
end
def spIsName (P : Addr) : Sp := fun vs H Q _ => ∃ (x : V) (d : PyData), vs = [x] ∧ Tr H x d ∧ GxR.TabG H P ∧ (∀ z, d = .str z → z.length ≤ sizeLine) ∧ ∀ H', Gr P H H' → Q (.bl (nameD d)) H'
section
variable {P : Program} {w : World} {K : PySem.W.Frag} {mg : Str → Option Value} {base : Heap} {W S R : Addr}
theorem wholeD_int (lo hi i : Int) : wholeD lo hi (.int i) = (decide (lo ≤ i) && decide (i ≤ hi)) := rfl
theorem scWhole : FnScope ["thing", "low", "high"] ["thing", "low", "high"] (defScope sWhole) := ⟨rfl, rfl, rfl, by decide +kernel, rfl, by decide +kernel, by decide +kernel⟩
theorem ok_whole {f : Addr} {fd : FuncData} (F : Fun K "is_whole" "is_whole" sWhole f fd) (B : BltH mg) : FnOk P w K mg base CX0 1 f fd ["thing", "low", "high"] spWhole := by
  refine F.ok scWhole (fun vs H Q E h => ?_) (fun cdv A outer s H vs Q E hr h => ?_)
  · obtain ⟨x, d, lo, hi, rfl, _⟩ := h
    rfl
  obtain ⟨x, d, lo, hi, rfl, t, k⟩ := h
  refine ⟨_, pss_cons (ps_if (PW.pt (pw_or (pt_val (pe_callB call_isT (by rfl) B.isinstance (by decide +kernel) (pa_cons (pv 0) (pa_cons (pe_bltn (v := .ty "bool") (by rfl) B.bool (by decide +kernel) rfl) pa_nil))))
      (pw_or1 (pt_not (pt_val (pe_callB call_isT (by rfl) B.isinstance (by decide +kernel) (pa_cons (pv 0) (pa_cons (pe_bltn (v := .ty "int") (by rfl) B.int (by decide +kernel) rfl) pa_nil)))))))) (pss_one (ps_ret pe_bl)) pss_nil) <|
    pss_one (ps_ret (pe_chain op_le op_le (pv 1) (pv 0) (pv 2))), ?_⟩
  refine ⟨_, rfl, x, "bool", d, isB, rfl, kB, t, _, rfl, ?_⟩
  have no : isI d = false → wholeD lo hi d = false → (H : Hp) → Tr H x d → True := fun _ _ _ _ => trivial
  cases t with
  | int i =>
    refine iteF ?_
    refine ⟨_, rfl, _, "int", _, isI, rfl, kI, .int i, _, rfl, iteF ?_⟩
    refine ⟨_, rfl, _, rfl, _, _, rfl, rfl, _, rfl, ?_⟩
    refine ite2 (fun c => ?_) (fun c => ?_)
    · refine ⟨_, rfl, _, _, rfl, rfl, ?_⟩
      have e : wholeD lo hi (.int i) = decide (i ≤ hi) := by rw [wholeD_int, c]; rfl
      rw [e] at k
      exact k
    · have e : wholeD lo hi (.int i) = false := by rw [wholeD_int, Bool.eq_false_iff.mpr c]; rfl
      rw [e] at k
      exact k
  | bl b => exact iteT k
  | non => exact iteF ⟨_, rfl, _, "int", _, isI, rfl, kI, .non, _, rfl, iteT k⟩
  | str z => exact iteF ⟨_, rfl, _, "int", _, isI, rfl, kI, .str z, _, rfl, iteT k⟩
  | lst h a => exact iteF ⟨_, rfl, _, "int", _, isI, rfl, kI, .lst h a, _, rfl, iteT k⟩
  | tup h a => exact iteF ⟨_, rfl, _, "int", _, isI, rfl, kI, .tup h a, _, rfl, iteT k⟩
  | dct h n e a => exact iteF ⟨_, rfl, _, "int", _, isI, rfl, kI, .dct h n e a, _, rfl, iteT k⟩
theorem scTupOf : FnScope ["thing", "least", "most"] ["thing", "least", "most"] (defScope sTupOf) := ⟨rfl, rfl, rfl, by decide +kernel, rfl, by decide +kernel, by decide +kernel⟩
theorem ok_tupOf {f : Addr} {fd : FuncData} (F : Fun K "is_tuple_of" "is_tuple_of" sTupOf f fd) (B : BltH mg) : FnOk P w K mg base CX0 1 f fd ["thing", "least", "most"] spTupOf := by
  refine F.ok scTupOf (fun vs H Q E h => ?_) (fun cdv A outer s H vs Q E hr h => ?_)
  · obtain ⟨x, d, lo, hi, rfl, _⟩ := h
    rfl
  obtain ⟨x, d, lo, hi, rfl, t, k⟩ := h
  refine ⟨_, pss_one (ps_ret (pe_and (pe_callB call_isT (by rfl) B.isinstance (by decide +kernel) (pa_cons (pv 0) (pa_cons (pe_bltn (v := .ty "tuple") (by rfl) B.tuple (by decide +kernel) rfl) pa_nil)))
    (pe_one (pe_chain op_le op_le (pv 1) (pe_callB call_len_seq (by rfl) B.len PySem.boot_len (pa_cons (pv 0) pa_nil)) (pv 2))))), ?_⟩
  refine ⟨_, rfl, x, "tuple", d, isTup, rfl, kT, t, _, rfl, ?_⟩
  cases t with
  | @tup a xs ds h al =>
    refine iteT ?_
    have el := al.length
    refine ⟨_, rfl, _, rfl, a, _, rfl, .inr ((.inl h)), _, _, rfl, rfl, _, rfl, ?_⟩
    refine ite2 (fun c => ?_) (fun c => ?_)
    · refine ⟨_, rfl, _, _, rfl, rfl, ?_⟩
      have e : tupD lo hi (.tuple ds) = decide (((xs.length : Nat) : Int) ≤ hi) := by show (decide (lo ≤ ((ds.length : Nat) : Int)) && decide (((ds.length : Nat) : Int) ≤ hi)) = _; rw [← el, c]; rfl
      rw [e] at k
      exact k
    · have e : tupD lo hi (.tuple ds) = false := by show (decide (lo ≤ ((ds.length : Nat) : Int)) && decide (((ds.length : Nat) : Int) ≤ hi)) = _; rw [← el, Bool.eq_false_iff.mpr c]; rfl
      rw [e] at k
      exact k
  | int i => exact iteF k
  | bl b => exact iteF k
  | non => exact iteF k
  | str z => exact iteF k
  | lst h a => exact iteF k
  | dct h n e a => exact iteF k
theorem scPrice : FnScope ["thing"] ["thing"] (defScope sPrice) := ⟨rfl, rfl, rfl, by decide +kernel, rfl, by decide +kernel, by decide +kernel⟩
theorem ok_price {f g : Addr} {fd gd : FuncData} (F : Fun K "is_price" "is_price" sPrice f fd) (G : FnOk P w K mg base CX0 1 g gd ["thing", "low", "high"] spWhole) (bG : Binds K gd ["thing", "low", "high"] []) (kG : PySem.W.keepIn K (.ref g) = true) (mG : mg "is_whole" = some (.ref g)) (C : Cons K mg W S R) : FnOk P w K mg base CX0 2 f fd ["thing"] spPrice := by
  refine F.ok scPrice (fun vs H Q E h => ?_) (fun cdv A outer s H vs Q E hr h => ?_)
  · obtain ⟨x, d, rfl, _⟩ := h
    rfl
  obtain ⟨x, d, rfl, t, k⟩ := h
  obtain ⟨tk, hdear⟩ := C.dear
  refine ⟨_, pss_one (ps_ret (pe_call G hr rfl mG kG bG .nil pass0 (pa_cons (pv 0) (pa_cons pe_int (pa_cons (pe_glob (v := .int 1000000) (by rfl) hdear ⟨_, rfl⟩) pa_nil))))), ?_⟩
  exact ⟨_, rfl, x, d, 1, 1000000, rfl, t, k⟩
/-- the scope of the generator expression over a name's signs -/
def scSign : Scope := { kind := .function, names := [((".0" : Str), NameKind.local), (("sign" : Str), NameKind.local)], isGenerator := true, isCoroutine := false }
theorem gsSign (env : Env) : GxR.GenS env scSign "sign" := by
  refine ⟨rfl, rfl, by decide +kernel, rfl, rfl, fun y hy e => ?_⟩
  have z : y = ((".0" : Str), NameKind.local) ∨ y = (("sign" : Str), NameKind.local) := by simpa [scSign] using hy
  rcases z with z | z
  · rw [z] at e
    cases e
  · rw [z] at e
    cases e
theorem nameD_str (z : Str) : nameD (.str z) = (decide ((1 : Int) ≤ (z.length : Int)) && (decide ((z.length : Int) ≤ 8) && z.cps.toList.all smallC)) := rfl
theorem scIsName : FnScope ["thing"] ["thing"] (defScope sIsName) := ⟨rfl, rfl, rfl, by decide +kernel, rfl, by decide +kernel, by decide +kernel⟩
theorem ok_isName {f c Pt : Addr} {oc : Value} {od an : Option Addr} {osl : Array (Option Value)} {kV doc pm ct : Value} (lk : K.lookup f = some ⟨oc, od, .func (PySem.W.fnOf "is_name" "is_name" (defArgs sIsName) (defBody sIsName) (defScope sIsName) .none kV doc pm an (.ref c) ct), osl⟩) (hcd : PySem.W.codeIn K (.ref c) "is_name" = true)
    (TB : GxR.TabB base mg c Pt) (C : Cons K mg W S R) (B : BltH mg) : FnOk P w K mg base CX0 2 f (PySem.W.fnOf "is_name" "is_name" (defArgs sIsName) (defBody sIsName) (defScope sIsName) .none kV doc pm an (.ref c) ct) ["thing"] (spIsName Pt) := by
  refine fn_of lk hcd scIsName (fun vs H Q E h => ?_) (fun A outer s H vs Q E hr h => ?_)
  · obtain ⟨x, d, rfl, _⟩ := h
    rfl
  obtain ⟨x, d, rfl, t, tg, hz, k⟩ := h
  obtain ⟨tk, hlong⟩ := C.long
  refine ⟨_, PSs.nox (pss_cons (ps_if (PW.pt (pw_or (pt_not (pt_val (pe_callB call_isT (by rfl) B.isinstance (by decide +kernel) (pa_cons (pv 0) (pa_cons (pe_bltn (v := .ty "str") (by rfl) B.str (by decide +kernel) rfl) pa_nil)))))
      (pw_or1 (pt_not (pt_chain op_le op_le pe_int (pe_callB call_len_str (by rfl) B.len PySem.boot_len (pa_cons (pv 0) pa_nil)) (pe_glob (v := .int 8) (by rfl) hlong ⟨_, rfl⟩)))))) (pss_one (ps_ret pe_bl)) pss_nil) <|
    pss_one (ps_ret (GxR.pe_allS hr (by rfl) B.all (by decide +kernel) TB rfl (gsSign _) (pv 0) (elt_az rfl rfl) (fun _ => rfl)))), ?_⟩
  refine ⟨_, rfl, x, "str", d, isStr, rfl, kS, t, _, rfl, ?_⟩
  cases t with
  | str z =>
    refine iteF ?_
    have hz := hz z rfl
    refine ⟨_, rfl, _, rfl, hz, _, _, rfl, rfl, _, rfl, ?_⟩
    refine ite2 (fun c1 => ?_) (fun c1 => ?_)
    · refine ⟨_, _, rfl, rfl, _, rfl, ?_⟩
      cases c2 : decide ((z.length : Int) ≤ 8) with
      | true =>
        refine iteF ⟨_, rfl, z, rfl, tg, fun H2 tb => ?_⟩
        have e : nameD (.str z) = z.cps.toList.all smallC := by rw [nameD_str, c1, c2]; rfl
        have q := k H2 (Gr.of tb)
        rw [e] at q
        exact q
      | false =>
        have e : nameD (.str z) = false := by rw [nameD_str, c1, c2]; rfl
        have q := k H (Gr.refl tg)
        rw [e] at q
        exact iteT q
    · have e : nameD (.str z) = false := by rw [nameD_str, Bool.eq_false_iff.mpr c1]; rfl
      have q := k H (Gr.refl tg)
      rw [e] at q
      exact ⟨_, rfl, iteT q⟩
  | int i => exact iteT (k H (Gr.refl tg))
  | bl b => exact iteT (k H (Gr.refl tg))
  | non => exact iteT (k H (Gr.refl tg))
  | tup h a => exact iteT (k H (Gr.refl tg))
  | lst h a => exact iteT (k H (Gr.refl tg))
  | dct h n e a => exact iteT (k H (Gr.refl tg))
end
end Pk
namespace Pk
open PySem L2
mutual
/-- texts in it are not too long -/
def okS : PyData → Bool
  | .str z => decide (z.length ≤ 100000)
  | .list xs | .tuple xs => okSs xs
  | .dict es => okKv es
  | .none | .bool _ | .int _ => true
def okSs : List PyData → Bool
  | [] => true
  | x :: xs => okS x && okSs xs
def okKv : List (PyData × PyData) → Bool
  | [] => true
  | (_, x) :: xs => okS x && okKv xs
end
theorem okSs_get : ∀ {ds : List PyData} {i : Nat} {d : PyData}, okSs ds = true → ds[i]? = some d → okS d = true
  | [], i, d, _, h => by simp at h
  | x :: xs, 0, d, e, h => by
    cases (show some x = some d from h)
    rw [okSs, Bool.and_eq_true] at e
    exact e.1
  | x :: xs, i + 1, d, e, h => by
    rw [okSs, Bool.and_eq_true] at e
    exact okSs_get (i := i) e.2 h
theorem okS_str {d : PyData} (h : okS d = true) : ∀ z, d = .str z → z.length ≤ sizeLine := fun z e => by
  subst e
  simp only [okS, decide_eq_true_eq] at h
  have := sizeLine_eq
  omega
theorem tupD6 {d : PyData} (h : tupD 6 6 d = true) : ∃ a b c e f g, d = .tuple [a, b, c, e, f, g] := by
  cases d with
  | tuple ds =>
    simp only [tupD, Bool.and_eq_true, decide_eq_true_eq] at h
    match ds, h with
    | [a, b, c, e, f, g], _ => exact ⟨a, b, c, e, f, g, rfl⟩
    | [], h => simp at h
    | [_], h => simp at h
    | [_, _], h => simp at h
    | [_, _, _], h => simp at h
    | [_, _, _, _], h => simp at h
    | [_, _, _, _, _], h => simp at h
    | _ :: _ :: _ :: _ :: _ :: _ :: _ :: _, h => simp at h; omega
  | _ => cases h
theorem tupD_not6 {d : PyData} (h : tupD 6 6 d = false) : dialD d = false := by
  unfold dialD
  split
  · cases (show true = false from h)
  · rfl
def spIsDial (Pt : Addr) : Sp := fun vs H Q _ => ∃ (x : V) (d : PyData), vs = [x] ∧ Tr H x d ∧ GxR.TabG H Pt ∧ okS d = true ∧ ∀ H', Gr Pt H H' → Q (.bl (dialD d)) H'
section
variable {P : Program} {w : World} {K : PySem.W.Frag} {mg : Str → Option Value} {base : Heap} {W S R Pt : Addr}
theorem scIsDial : FnScope ["thing", "name", "low", "high", "way", "up", "down"] ["thing"] (defScope sIsDial) := ⟨rfl, rfl, rfl, by decide +kernel, rfl, by decide +kernel, by decide +kernel⟩
theorem ok_isDial {f g1 g2 g3 g4 : Addr} {fd d1 d2 d3 d4 : FuncData} (F : Fun K "is_dial" "is_dial" sIsDial f fd)
    (G1 : FnOk P w K mg base CX0 1 g1 d1 ["thing", "low", "high"] spWhole) (b1 : Binds K d1 ["thing", "low", "high"] []) (k1 : PySem.W.keepIn K (.ref g1) = true) (m1 : mg "is_whole" = some (.ref g1))
    (G2 : FnOk P w K mg base CX0 1 g2 d2 ["thing", "least", "most"] spTupOf) (b2 : Binds K d2 ["thing", "least", "most"] []) (k2 : PySem.W.keepIn K (.ref g2) = true) (m2 : mg "is_tuple_of" = some (.ref g2))
    (G3 : FnOk P w K mg base CX0 2 g3 d3 ["thing"] (spIsName Pt)) (b3 : Binds K d3 ["thing"] []) (k3 : PySem.W.keepIn K (.ref g3) = true) (m3 : mg "is_name" = some (.ref g3))
    (G4 : FnOk P w K mg base CX0 2 g4 d4 ["thing"] spPrice) (b4 : Binds K d4 ["thing"] []) (k4 : PySem.W.keepIn K (.ref g4) = true) (m4 : mg "is_price" = some (.ref g4))
    (C : Cons K mg W S R) : FnOk P w K mg base CX0 3 f fd ["thing"] (spIsDial Pt) := by
  refine F.ok scIsDial (fun vs H Q E h => ?_) (fun cdv A outer s H vs Q E hr h => ?_)
  · obtain ⟨x, d, rfl, _⟩ := h
    rfl
  obtain ⟨x, d, rfl, t, tg, hz, k⟩ := h
  obtain ⟨tf, hfar⟩ := C.far
  have hu := hu_of hr
  have hr1 : Room 1 _ := hr.mono (by decide)
  refine ⟨_, pss_cons (ps_if (pt_not (pt_val (pe_call G2 hr1 rfl m2 k2 b2 .nil pass0 (pa_cons (pv 0) (pa_cons pe_int (pa_cons pe_int pa_nil)))))) (pss_one (ps_ret pe_bl)) pss_nil) <|
    pss_cons (ps_asg (pv 0) (pg_tup (by rfl) (pgs_cons (pg_name (i := 1) scIsDial.nd rfl (.inl rfl)) <| pgs_cons (pg_name (i := 2) scIsDial.nd rfl (.inl rfl)) <| pgs_cons (pg_name (i := 3) scIsDial.nd rfl (.inl rfl)) <|
      pgs_cons (pg_name (i := 4) scIsDial.nd rfl (.inl rfl)) <| pgs_cons (pg_name (i := 5) scIsDial.nd rfl (.inl rfl)) <| pgs_cons (pg_name (i := 6) scIsDial.nd rfl (.inl rfl)) pgs_nil))) <|
    pss_cons (ps_if (PW.pt (pw_or (pt_not (pt_val (pe_call G3 hr rfl m3 k3 b3 .nil pass0 (pa_cons (pv 1) pa_nil)))) (pw_or1 (pt_cmpR (op_notInS hu) (pv 4) (pe_glob (v := .ref W) (by rfl) C.mW rfl) (by rfl))))) (pss_one (ps_ret pe_bl)) pss_nil) <|
    pss_cons (ps_if (PW.pt (pw_or (pt_not (pt_val (pe_call G1 hr1 rfl m1 k1 b1 .nil pass0 (pa_cons (pv 2) (pa_cons (pe_un un_neg (pe_glob (v := .int farS) (by rfl) hfar ⟨_, rfl⟩)) (pa_cons (pe_glob (v := .int farS) (by rfl) hfar ⟨_, rfl⟩) pa_nil))))))
      (pw_or1 (pt_not (pt_val (pe_call G1 hr1 rfl m1 k1 b1 .nil pass0 (pa_cons (pv 3) (pa_cons (pv 2) (pa_cons (pe_glob (v := .int farS) (by rfl) hfar ⟨_, rfl⟩) pa_nil))))))))) (pss_one (ps_ret pe_bl)) pss_nil) <|
    pss_one (ps_ret (pe_and (pe_call G4 hr rfl m4 k4 b4 .nil pass0 (pa_cons (pv 5) pa_nil)) (pe_one (pe_call G4 hr rfl m4 k4 b4 .nil pass0 (pa_cons (pv 6) pa_nil))))), ?_⟩
  refine ⟨_, rfl, x, d, 6, 6, rfl, t, _, rfl, ?_⟩
  cases c1 : tupD 6 6 d with
  | false =>
    have q := k H (Gr.refl tg)
    rw [tupD_not6 c1] at q
    exact iteT q
  | true =>
    refine iteF ?_
    obtain ⟨da, db, dc, dd, de, df, rfl⟩ := tupD6 c1
    cases t with
    | @tup a xs _ h al =>
    revert h
    match xs, al with
    | [xa, xb, xc, xd, xe, xf], .cons ta (.cons tb (.cons tc (.cons td (.cons te (.cons tf' .nil))))) =>
    intro h
    simp only [okS, okSs, Bool.and_eq_true] at hz
    refine ⟨_, rfl, a, _, rfl, (.inl h), rfl, ?_⟩
    refine ⟨_, _, rfl, _, _, rfl, _, _, rfl, _, _, rfl, _, _, rfl, _, _, rfl, rfl, ?_⟩
    refine ⟨_, rfl, xa, da, rfl, ta, tg, okS_str hz.1, fun H1 gr => ⟨_, rfl, ?_⟩⟩
    have q := k H1 gr
    have tg1 := gr.1
    have ed : dialD (.tuple [da, db, dc, dd, de, df]) = (nameD da && (inS ways3 dd && dialR db dc de df)) := rfl
    rw [ed] at q
    cases c2 : nameD da with
    | false =>
      rw [c2] at q
      exact iteT q
    | true =>
      rw [c2] at q
      refine iteF ?_
      refine ⟨_, rfl, dd, W, _, td.gr tg gr, rfl, .inr (C.ways H1), _, rfl, ?_⟩
      have q : Q (.bl (inS ways3 dd && dialR db dc de df)) H1 := q
      cases c3 : inS ways3 dd with
      | false =>
        rw [c3] at q
        have c3' : (ways3.any fun z => strIs z dd) = false := c3
        rw [c3']
        exact iteT q
      | true =>
        rw [c3] at q
        have c3' : (ways3.any fun z => strIs z dd) = true := c3
        rw [c3']
        refine iteF ?_
        refine ⟨_, rfl, _, rfl, xb, db, -farS, farS, rfl, tb.gr tg gr, _, rfl, ?_⟩
        cases c4 : wholeD (-farS) farS db with
        | false =>
          have e : dialR db dc de df = false := by
            cases db with
            | int l =>
              show (wholeD (-farS) farS (.int l) && _) = false
              rw [c4]
              rfl
            | _ => rfl
          rw [e] at q
          exact iteT q
        | true =>
          refine iteF ?_
          cases tb with
          | int l =>
            have q : Q (.bl (wholeD (-farS) farS (.int l) && (wholeD l farS dc && (wholeD 1 1000000 de && wholeD 1 1000000 df)))) H1 := q
            rw [c4] at q
            have q : Q (.bl (wholeD l farS dc && (wholeD 1 1000000 de && wholeD 1 1000000 df))) H1 := q
            refine ⟨_, rfl, _, rfl, xc, dc, l, farS, rfl, tc.gr tg gr, _, rfl, ?_⟩
            cases c5 : wholeD l farS dc with
            | false =>
              rw [c5] at q
              exact iteT q
            | true =>
              rw [c5] at q
              have q : Q (.bl (wholeD 1 1000000 de && wholeD 1 1000000 df)) H1 := q
              refine iteF ⟨_, rfl, xe, de, rfl, te.gr tg gr, _, rfl, ?_⟩
              cases c6 : wholeD 1 1000000 de with
              | false =>
                rw [c6] at q
                exact iteF q
              | true =>
                rw [c6] at q
                exact iteT ⟨_, rfl, xf, df, rfl, tf'.gr tg gr, q⟩
          | non => cases c4
          | bl b => cases c4
          | str z => cases c4
          | lst _ _ => cases c4
          | tup _ _ => cases c4
          | dct _ _ _ _ => cases c4
end
end Pk
namespace Pk
open PySem L2
theorem walk_enumT {K : PySem.W.Frag} {a : Addr} {xs : List V} : Walk (IteT K a) xs.length (fun H => SqT K H a xs) (YPair (fun i => some (.int (i : Nat))) (fun i => xs[i]?)) where
  goes := fun i H hi h => ⟨xs, xs[i], h, by simp [hi]⟩
  stops := fun H h => ⟨xs, h, Nat.le_refl _⟩
  yields := fun i H x H' hi h ⟨T, y, e1, e2, e3, e4⟩ => ⟨T, .int (i : Nat), y, e1, e2, e3, rfl, e4 xs h⟩
theorem tupD3 {d : PyData} (h : tupD 3 3 d = true) : ∃ a b c, d = .tuple [a, b, c] := by
  cases d with
  | tuple ds =>
    simp only [tupD, Bool.and_eq_true, decide_eq_true_eq] at h
    match ds, h with
    | [a, b, c], _ => exact ⟨a, b, c, rfl⟩
    | [], h => simp at h
    | [_], h => simp at h
    | [_, _], h => simp at h
    | _ :: _ :: _ :: _ :: _, h => simp at h; omega
  | _ => cases h
theorem tupD4 {d : PyData} (h : tupD 4 4 d = true) : ∃ a b c e, d = .tuple [a, b, c, e] := by
  cases d with
  | tuple ds =>
    simp only [tupD, Bool.and_eq_true, decide_eq_true_eq] at h
    match ds, h with
    | [a, b, c, e], _ => exact ⟨a, b, c, e, rfl⟩
    | [], h => simp at h
    | [_], h => simp at h
    | [_, _], h => simp at h
    | [_, _, _], h => simp at h
    | _ :: _ :: _ :: _ :: _ :: _, h => simp at h; omega
  | _ => cases h
theorem tupD2 {d : PyData} (h : tupD 2 2 d = true) : ∃ a b, d = .tuple [a, b] := by
  cases d with
  | tuple ds =>
    simp only [tupD, Bool.and_eq_true, decide_eq_true_eq] at h
    match ds, h with
    | [a, b], _ => exact ⟨a, b, rfl⟩
    | [], h => simp at h
    | [_], h => simp at h
    | _ :: _ :: _ :: _, h => simp at h; omega
  | _ => cases h
theorem sayD_not {ns : List Str} {d : PyData} (h : tupD 3 3 d = false) : sayingD ns d = false := by
  unfold sayingD
  split
  · cases (show true = false from h)
  · rfl
theorem inS_str {zs : List Str} {d : PyData} (h : inS zs d = true) : ∃ z, d = .str z := by
  unfold inS at h
  obtain ⟨z, _, hz⟩ := List.any_eq_true.mp h
  cases d with
  | str y => exact ⟨y, rfl⟩
  | _ => cases hz
def spIsSaying : Sp := fun vs H Q _ => ∃ (a : Addr) (ns : List Str) (x : V) (d : PyData), vs = [.ref a, x] ∧ H a = some (.lst (ns.map V.str)) ∧ Tr H x d ∧ Q (.bl (sayingD ns d)) H
def spIsRule : Sp := fun vs H Q _ => ∃ (a : Addr) (ns : List Str) (x : V) (d : PyData), vs = [.ref a, x] ∧ H a = some (.lst (ns.map V.str)) ∧ Tr H x d ∧ Q (.bl (ruleD ns d)) H
def spForm : Sp := fun vs H Q _ => ∃ (x : V) (d : PyData), vs = [x] ∧ Tr H x d ∧ Q (.bl (formD d)) H
section
variable {P : Program} {w : World} {K : PySem.W.Frag} {mg : Str → Option Value} {base : Heap} {W S R Pt : Addr}
theorem scIsSaying : FnScope ["names", "thing", "name", "sort", "i"] ["names", "thing"] (defScope sIsSaying) := ⟨rfl, rfl, rfl, by decide +kernel, rfl, by decide +kernel, by decide +kernel⟩
theorem ok_isSaying {f g1 g2 : Addr} {fd d1 d2 : FuncData} (F : Fun K "is_saying" "is_saying" sIsSaying f fd)
    (G1 : FnOk P w K mg base CX0 1 g1 d1 ["thing", "low", "high"] spWhole) (b1 : Binds K d1 ["thing", "low", "high"] []) (k1 : PySem.W.keepIn K (.ref g1) = true) (m1 : mg "is_whole" = some (.ref g1))
    (G2 : FnOk P w K mg base CX0 1 g2 d2 ["thing", "least", "most"] spTupOf) (b2 : Binds K d2 ["thing", "least", "most"] []) (k2 : PySem.W.keepIn K (.ref g2) = true) (m2 : mg "is_tuple_of" = some (.ref g2))
    (C : Cons K mg W S R) : FnOk P w K mg base CX0 2 f fd ["names", "thing"] spIsSaying := by
  refine F.ok scIsSaying (fun vs H Q E h => ?_) (fun cdv A outer s H vs Q E hr h => ?_)
  · obtain ⟨a, ns, x, d, rfl, _⟩ := h
    rfl
  obtain ⟨a, ns, x, d, rfl, hns, t, q⟩ := h
  obtain ⟨tf, hgr⟩ := C.great
  have hu := hu_of hr
  refine ⟨_, pss_cons (ps_if (pt_not (pt_val (pe_call G2 hr rfl m2 k2 b2 .nil pass0 (pa_cons (pv 1) (pa_cons pe_int (pa_cons pe_int pa_nil)))))) (pss_one (ps_ret pe_bl)) pss_nil) <|
    pss_cons (ps_asg (pv 1) (pg_tup (by rfl) (pgs_cons (pg_name (i := 2) scIsSaying.nd rfl (.inl rfl)) <| pgs_cons (pg_name (i := 3) scIsSaying.nd rfl (.inl rfl)) <| pgs_cons (pg_name (i := 4) scIsSaying.nd rfl (.inl rfl)) pgs_nil))) <|
    pss_one (ps_ret (pe_and (pe_cmpR (op_inS hu) (pv 2) (pv 0) (by rfl)) (pe_and (pe_cmpR (op_inS hu) (pv 3) (pe_glob (v := .ref S) (by rfl) C.mS rfl) (by rfl))
      (pe_one (pe_call G1 hr rfl m1 k1 b1 .nil pass0 (pa_cons (pv 4) (pa_cons (pe_un un_neg (pe_glob (v := .int greatS) (by rfl) hgr ⟨_, rfl⟩)) (pa_cons (pe_glob (v := .int greatS) (by rfl) hgr ⟨_, rfl⟩) pa_nil)))))))), ?_⟩
  refine ⟨_, rfl, x, d, 3, 3, rfl, t, _, rfl, ?_⟩
  cases c1 : tupD 3 3 d with
  | false =>
    rw [sayD_not c1] at q
    exact iteT q
  | true =>
    refine iteF ?_
    obtain ⟨da, db, dc, rfl⟩ := tupD3 c1
    cases t with
    | @tup b xs _ h al =>
    revert h
    match xs, al with
    | [xa, xb, xc], .cons ta (.cons tb (.cons tc .nil)) =>
    intro h
    refine ⟨_, rfl, b, _, rfl, (.inl h), rfl, _, _, rfl, _, _, rfl, _, _, rfl, rfl, ?_⟩
    have q : Q (.bl (inS ns da && (inS sorts2 db && wholeD (-greatS) greatS dc))) H := q
    refine ⟨_, rfl, _, rfl, da, a, ns, ta, rfl, .inl (SqL.of hns), _, rfl, ?_⟩
    cases c2 : inS ns da with
    | false =>
      rw [c2] at q
      have c2' : (ns.any fun z => strIs z da) = false := c2
      rw [c2']
      exact iteF q
    | true =>
      rw [c2] at q
      have c2' : (ns.any fun z => strIs z da) = true := c2
      rw [c2']
      have q : Q (.bl (inS sorts2 db && wholeD (-greatS) greatS dc)) H := q
      refine iteT ⟨_, rfl, db, S, _, tb, rfl, .inr (C.sorts H), _, rfl, ?_⟩
      cases c3 : inS sorts2 db with
      | false =>
        rw [c3] at q
        have c3' : (sorts2.any fun z => strIs z db) = false := c3
        rw [c3']
        exact iteF q
      | true =>
        rw [c3] at q
        have c3' : (sorts2.any fun z => strIs z db) = true := c3
        rw [c3']
        exact iteT ⟨_, rfl, _, rfl, xc, dc, -greatS, greatS, rfl, tc, q⟩
theorem scIsRule : FnScope ["names", "thing", "word", "first", "second", "a", "b", "c"] ["names", "thing"] (defScope sIsRule) := ⟨rfl, rfl, rfl, by decide +kernel, rfl, by decide +kernel, by decide +kernel⟩
theorem ok_isRule {f g1 g2 g3 : Addr} {fd d1 d2 d3 : FuncData} (F : Fun K "is_rule" "is_rule" sIsRule f fd)
    (G1 : FnOk P w K mg base CX0 1 g1 d1 ["thing", "low", "high"] spWhole) (b1 : Binds K d1 ["thing", "low", "high"] []) (k1 : PySem.W.keepIn K (.ref g1) = true) (m1 : mg "is_whole" = some (.ref g1))
    (G2 : FnOk P w K mg base CX0 1 g2 d2 ["thing", "least", "most"] spTupOf) (b2 : Binds K d2 ["thing", "least", "most"] []) (k2 : PySem.W.keepIn K (.ref g2) = true) (m2 : mg "is_tuple_of" = some (.ref g2))
    (G3 : FnOk P w K mg base CX0 2 g3 d3 ["names", "thing"] spIsSaying) (b3 : Binds K d3 ["names", "thing"] []) (k3 : PySem.W.keepIn K (.ref g3) = true) (m3 : mg "is_saying" = some (.ref g3))
    (C : Cons K mg W S R) : FnOk P w K mg base CX0 3 f fd ["names", "thing"] spIsRule := by
  refine F.ok scIsRule (fun vs H Q E h => ?_) (fun cdv A outer s H vs Q E hr h => ?_)
  · obtain ⟨a, ns, x, d, rfl, _⟩ := h
    rfl
  obtain ⟨a, ns, x, d, rfl, hns, t, q⟩ := h
  obtain ⟨tf, hgr⟩ := C.great
  have hu := hu_of hr
  have hr1 : Room 1 _ := hr.mono (by decide)
  refine ⟨_, pss_cons (ps_if (pt_val (pe_call G2 hr1 rfl m2 k2 b2 .nil pass0 (pa_cons (pv 1) (pa_cons pe_int (pa_cons pe_int pa_nil)))))
      (pss_cons (ps_asg (pv 1) (pg_tup (by rfl) (pgs_cons (pg_name (i := 2) scIsRule.nd rfl (.inl rfl)) <| pgs_cons (pg_name (i := 3) scIsRule.nd rfl (.inl rfl)) <| pgs_cons (pg_name (i := 4) scIsRule.nd rfl (.inl rfl)) pgs_nil)))
      (pss_one (ps_ret (pe_and (pe_cmpR (op_eqS hu) (pv 2) pe_str (nomark _)) (pe_and (pe_call G3 hr rfl m3 k3 b3 .nil pass0 (pa_cons (pv 0) (pa_cons (pv 3) pa_nil))) (pe_one (pe_call G3 hr rfl m3 k3 b3 .nil pass0 (pa_cons (pv 0) (pa_cons (pv 4) pa_nil))))))))) pss_nil) <|
    pss_cons (ps_if (pt_val (pe_call G2 hr1 rfl m2 k2 b2 .nil pass0 (pa_cons (pv 1) (pa_cons pe_int (pa_cons pe_int pa_nil)))))
      (pss_cons (ps_asg (pv 1) (pg_tup (by rfl) (pgs_cons (pg_name (i := 2) scIsRule.nd rfl (.inl rfl)) <| pgs_cons (pg_name (i := 5) scIsRule.nd rfl (.inl rfl)) <| pgs_cons (pg_name (i := 6) scIsRule.nd rfl (.inl rfl)) <| pgs_cons (pg_name (i := 7) scIsRule.nd rfl (.inl rfl)) pgs_nil)))
      (pss_cons (ps_if (PW.pt (pw_or (pt_cmpR (op_notInS hu) (pv 2) (pe_glob (v := .ref R) (by rfl) C.mR rfl) (by rfl)) (pw_or (pt_cmpR (op_notInS hu) (pv 5) (pv 0) (by rfl)) (pw_or1 (pt_cmpR (op_notInS hu) (pv 6) (pv 0) (by rfl)))))) (pss_one (ps_ret pe_bl)) pss_nil)
      (pss_one (ps_ret (pe_and (pe_cmpR op_ne (pv 5) (pv 6) (nomark _)) (pe_one (pe_call G1 hr1 rfl m1 k1 b1 .nil pass0 (pa_cons (pv 7) (pa_cons (pe_un un_neg (pe_glob (v := .int greatS) (by rfl) hgr ⟨_, rfl⟩)) (pa_cons (pe_glob (v := .int greatS) (by rfl) hgr ⟨_, rfl⟩) pa_nil)))))))))) pss_nil) <|
    pss_one (ps_ret pe_bl), ?_⟩
  refine ⟨_, rfl, x, d, 3, 3, rfl, t, _, rfl, ?_⟩
  cases c1 : tupD 3 3 d with
  | true =>
    refine iteT ?_
    obtain ⟨da, db, dc, rfl⟩ := tupD3 c1
    cases t with
    | @tup b xs _ h al =>
    revert h
    match xs, al with
    | [xa, xb, xc], .cons ta (.cons tb (.cons tc .nil)) =>
    intro h
    refine ⟨_, rfl, b, _, rfl, (.inl h), rfl, _, _, rfl, _, _, rfl, _, _, rfl, rfl, ?_⟩
    have q : Q (.bl (strIs "one" da && (sayingD ns db && sayingD ns dc))) H := q
    refine ⟨_, rfl, da, "one", ta, rfl, _, rfl, ?_⟩
    cases c2 : strIs "one" da with
    | false =>
      rw [c2] at q
      exact iteF q
    | true =>
      rw [c2] at q
      have q : Q (.bl (sayingD ns db && sayingD ns dc)) H := q
      refine iteT ⟨_, rfl, _, rfl, a, ns, xb, db, rfl, hns, tb, _, rfl, ?_⟩
      cases c3 : sayingD ns db with
      | false =>
        rw [c3] at q
        exact iteF q
      | true =>
        rw [c3] at q
        exact iteT ⟨_, rfl, _, rfl, a, ns, xc, dc, rfl, hns, tc, q⟩
  | false =>
    refine iteF ?_
    refine ⟨_, rfl, x, d, 4, 4, rfl, t, _, rfl, ?_⟩
    cases c4 : tupD 4 4 d with
    | false =>
      refine iteF ?_
      have e : ruleD ns d = false := by
        unfold ruleD
        split
        · cases (show true = false from c1)
        · cases (show true = false from c4)
        · rfl
      rw [e] at q
      exact q
    | true =>
      refine iteT ?_
      obtain ⟨dw, da, db, dc, rfl⟩ := tupD4 c4
      cases t with
      | @tup b xs _ h al =>
      revert h
      match xs, al with
      | [xw, xa, xb, xc], .cons tw (.cons ta (.cons tb (.cons tc .nil))) =>
      intro h
      refine ⟨_, rfl, b, _, rfl, (.inl h), rfl, _, _, rfl, _, _, rfl, _, _, rfl, _, _, rfl, rfl, ?_⟩
      have q : Q (.bl (inS pairs3 dw && (inS ns da && (inS ns db && (!sameS da db && wholeD (-greatS) greatS dc))))) H := q
      refine ⟨_, rfl, dw, R, _, tw, rfl, .inr (C.pairs H), _, rfl, ?_⟩
      cases c5 : inS pairs3 dw with
      | false =>
        rw [c5] at q
        rw [show (pairs3.any fun z => strIs z dw) = false from c5]
        exact iteT q
      | true =>
        rw [c5] at q
        rw [show (pairs3.any fun z => strIs z dw) = true from c5]
        have q : Q (.bl (inS ns da && (inS ns db && (!sameS da db && wholeD (-greatS) greatS dc)))) H := q
        refine iteF ⟨_, rfl, _, rfl, da, a, ns, ta, rfl, .inl (SqL.of hns), _, rfl, ?_⟩
        cases c6 : inS ns da with
        | false =>
          rw [c6] at q
          rw [show (ns.any fun z => strIs z da) = false from c6]
          exact iteT q
        | true =>
          rw [c6] at q
          rw [show (ns.any fun z => strIs z da) = true from c6]
          have q : Q (.bl (inS ns db && (!sameS da db && wholeD (-greatS) greatS dc))) H := q
          refine iteF ⟨_, rfl, _, rfl, db, a, ns, tb, rfl, .inl (SqL.of hns), _, rfl, ?_⟩
          cases c7 : inS ns db with
          | false =>
            rw [c7] at q
            rw [show (ns.any fun z => strIs z db) = false from c7]
            exact iteT q
          | true =>
            rw [c7] at q
            rw [show (ns.any fun z => strIs z db) = true from c7]
            have q : Q (.bl (!sameS da db && wholeD (-greatS) greatS dc)) H := q
            refine iteF ?_
            obtain ⟨za, rfl⟩ := inS_str c6
            obtain ⟨zb, rfl⟩ := inS_str c7
            cases ta with
            | str _ =>
            cases tb with
            | str _ =>
            refine ⟨_, rfl, _, rfl, rfl, _, rfl, ?_⟩
            by_cases hab : za = zb
            · subst hab
              have e : sameS (.str za) (.str za) = true := by simp [sameS]
              rw [e] at q
              rw [decide_eq_true rfl]
              exact iteF q
            · have e : sameS (.str za) (.str zb) = false := by simpa [sameS] using hab
              rw [e] at q
              rw [decide_eq_false (fun z => hab (V.str.inj z))]
              exact iteT ⟨_, rfl, _, rfl, xc, dc, -greatS, greatS, rfl, tc, q⟩
end
end Pk
namespace Pk
open PySem L2
def optV : Option Nat → V
  | none => .non
  | some k => .int (k : Nat)
def spFDial (Pt : Addr) : Sp := fun vs H Q _ => ∃ (a : Addr) (xs : List V) (ds : List PyData), vs = [.ref a] ∧ Rd H a (.tup xs) ∧ TrAll H xs ds ∧ GxR.TabG H Pt ∧ okSs ds = true ∧ xs.length ≤ 1000 ∧ ∀ H', Gr Pt H H' → Q (optV (fDial 0 none ds)) H'
theorem atV {xs : List V} {i : Nat} {x : V} (h : xs[i]? = some x) : atI xs ((i : Nat) : Int) = some x := atI_nat h
/-- a dial: its first thing is its name -/
theorem dial_name {d : PyData} (h : dialD d = true) {H : Hp} {x : V} (t : Tr H x d) : ∃ b xs, x = .ref b ∧ Rd H b (.tup xs) ∧ xs[0]? = some (.str (nameOf d)) := by
  unfold dialD at h
  split at h
  · rename_i n lo hi way up down
    rw [Bool.and_eq_true] at h
    cases n with
    | str z =>
      cases t with
      | @tup b xs _ hb al =>
        cases al with
        | cons t0 _ =>
          cases t0
          exact ⟨b, _, rfl, hb, rfl⟩
    | _ => cases h.1
  · cases h
/-- the name of the dial ahead of the i-th -/
def prevAt (ds : List PyData) : Nat → Option Str
  | 0 => none
  | i + 1 => (ds[i]?).map nameOf
theorem fDial_cons (k : Nat) (prev : Option Str) (d : PyData) (ds : List PyData) : fDial k prev (d :: ds) = if dialD d = true then (match prev with
      | some p => if leS (nameOf d) p = true then some k else fDial (k + 1) (some (nameOf d)) ds
      | none => fDial (k + 1) (some (nameOf d)) ds) else some k := rfl
theorem fDial_step {ds : List PyData} {i : Nat} {d : PyData} (h : ds[i]? = some d) (hd : dialD d = true) (hp : ∀ p, prevAt ds i = some p → leS (nameOf d) p = false) : fDial i (prevAt ds i) (ds.drop i) = fDial (i + 1) (prevAt ds (i + 1)) (ds.drop (i + 1)) := by
  obtain ⟨hi, e⟩ := List.getElem?_eq_some_iff.mp h
  rw [List.drop_eq_getElem_cons hi, e, fDial_cons, if_pos hd]
  have ep : prevAt ds (i + 1) = some (nameOf d) := by
    show (ds[i]?).map nameOf = _
    rw [h]
    rfl
  rw [ep]
  cases c : prevAt ds i with
  | none => rfl
  | some p =>
    show (if leS (nameOf d) p = true then some i else _) = _
    rw [hp p c, if_neg Bool.false_ne_true]
theorem fDial_bad {ds : List PyData} {i : Nat} {d : PyData} (h : ds[i]? = some d) (hd : dialD d = false) : fDial i (prevAt ds i) (ds.drop i) = some i := by
  obtain ⟨hi, e⟩ := List.getElem?_eq_some_iff.mp h
  rw [List.drop_eq_getElem_cons hi, e, fDial_cons, if_neg (by rw [hd]; exact Bool.false_ne_true)]
theorem fDial_low {ds : List PyData} {i : Nat} {d : PyData} {p : Str} (h : ds[i]? = some d) (hd : dialD d = true) (hp : prevAt ds i = some p) (hl : leS (nameOf d) p = true) : fDial i (prevAt ds i) (ds.drop i) = some i := by
  obtain ⟨hi, e⟩ := List.getElem?_eq_some_iff.mp h
  rw [List.drop_eq_getElem_cons hi, e, hp, fDial_cons, if_pos hd]
  show (if leS (nameOf d) p = true then some i else _) = _
  rw [if_pos hl]
section
variable {P : Program} {w : World} {K : PySem.W.Frag} {mg : Str → Option Value} {base : Heap} {W S R Pt : Addr}
theorem scForm : FnScope ["thing"] ["thing"] (defScope sForm) := ⟨rfl, rfl, rfl, by decide +kernel, rfl, by decide +kernel, by decide +kernel⟩
theorem ok_form {f g2 : Addr} {fd d2 : FuncData} (F : Fun K "has_house_form" "has_house_form" sForm f fd)
    (G2 : FnOk P w K mg base CX0 1 g2 d2 ["thing", "least", "most"] spTupOf) (b2 : Binds K d2 ["thing", "least", "most"] []) (k2 : PySem.W.keepIn K (.ref g2) = true) (m2 : mg "is_tuple_of" = some (.ref g2))
    (C : Cons K mg W S R) : FnOk P w K mg base CX0 2 f fd ["thing"] spForm := by
  refine F.ok scForm (fun vs H Q E h => ?_) (fun cdv A outer s H vs Q E hr h => ?_)
  · obtain ⟨x, d, rfl, _⟩ := h
    rfl
  obtain ⟨x, d, rfl, t, q⟩ := h
  obtain ⟨t1, hd⟩ := C.dials
  obtain ⟨t2, hrl⟩ := C.rules
  refine ⟨_, pss_cons (ps_if (pt_not (pt_val (pe_call G2 hr rfl m2 k2 b2 .nil pass0 (pa_cons (pv 0) (pa_cons pe_int (pa_cons pe_int pa_nil)))))) (pss_one (ps_ret pe_bl)) pss_nil) <|
    pss_one (ps_ret (pe_and (pe_call G2 hr rfl m2 k2 b2 .nil pass0 (pa_cons (pe_ix ix_tup (pv 0) pe_int (fun _ _ => rfl)) (pa_cons pe_int (pa_cons (pe_glob (v := .int 12) (by rfl) hd ⟨_, rfl⟩) pa_nil))))
      (pe_one (pe_call G2 hr rfl m2 k2 b2 .nil pass0 (pa_cons (pe_ix ix_tup (pv 0) pe_int (fun _ _ => rfl)) (pa_cons pe_int (pa_cons (pe_glob (v := .int 40) (by rfl) hrl ⟨_, rfl⟩) pa_nil))))))), ?_⟩
  refine ⟨_, rfl, x, d, 2, 2, rfl, t, _, rfl, ?_⟩
  cases c1 : tupD 2 2 d with
  | false =>
    have e : formD d = false := by
      unfold formD
      split
      · cases (show true = false from c1)
      · rfl
    rw [e] at q
    exact iteT q
  | true =>
    refine iteF ?_
    obtain ⟨da, db, rfl⟩ := tupD2 c1
    cases t with
    | @tup b xs _ h al =>
    revert h
    match xs, al with
    | [xa, xb], .cons ta (.cons tb .nil) =>
    intro h
    have q : Q (.bl (tupD 1 12 da && tupD 0 40 db)) H := q
    refine ⟨_, rfl, b, _, _, _, rfl, rfl, (.inl h), (rfl : atI [xa, xb] 0 = some xa), xa, da, 1, 12, rfl, ta, _, rfl, ?_⟩
    cases c2 : tupD 1 12 da with
    | false =>
      rw [c2] at q
      exact iteF q
    | true =>
      rw [c2] at q
      exact iteT ⟨_, rfl, b, _, _, _, rfl, rfl, (.inl h), (rfl : atI [xa, xb] 1 = some xb), xb, db, 0, 40, rfl, tb, q⟩
theorem scFDial : FnScope ["dials", "k", "dial"] ["dials"] (defScope sFDial) := ⟨rfl, rfl, rfl, by decide +kernel, rfl, by decide +kernel, by decide +kernel⟩
theorem ok_fDial {f g : Addr} {fd gd : FuncData} (F : Fun K "faulty_dial" "faulty_dial" sFDial f fd)
    (G : FnOk P w K mg base CX0 3 g gd ["thing"] (spIsDial Pt)) (bG : Binds K gd ["thing"] []) (kG : PySem.W.keepIn K (.ref g) = true) (mG : mg "is_dial" = some (.ref g)) (B : BltH mg) : FnOk P w K mg base CX0 4 f fd ["dials"] (spFDial Pt) := by
  refine F.ok scFDial (fun vs H Q E h => ?_) (fun cdv A outer s H vs Q E hr h => ?_)
  · obtain ⟨a, xs, ds, rfl, _⟩ := h
    rfl
  obtain ⟨a, xs, ds, rfl, ha, al, tg, hok, hlen, k⟩ := h
  have hl := al.length
  refine ⟨_, pss_cons (ps_for PassesOwn.never rfl (pi_enumT (by rfl) B.enumerate (pa_cons (pv 0) pa_nil)) (pg_tup rfl (pgs_cons (pg_name (i := 1) scFDial.nd rfl (.inl rfl)) (pgs_cons (pg_name (i := 2) scFDial.nd rfl (.inl rfl)) pgs_nil)))
      (pss_cons (ps_if (pt_not (pt_val (pe_call G hr rfl mG kG bG .nil pass0 (pa_cons (pv 2) pa_nil)))) (pss_one (ps_ret (pv 1))) pss_nil)
      (pss_one (ps_if (PW.pt (pw_and (pt_cmpR op_gt (pv 1) pe_int (nomark _)) (pw_and1 (pt_cmpR op_le_str (pe_ix ix_tup (pv 2) pe_int (fun _ _ => rfl)) (pe_ix ix_tup (pe_ix ix_tup (pv 0) (pe_op op_sub (pv 1) pe_int) (fun _ _ => rfl)) pe_int (fun _ _ => rfl)) (nomark _))))) (pss_one (ps_ret (pv 1))) pss_nil)))) <|
    pss_one (ps_ret pe_non), ?_⟩
  have an : ∀ H2, Gr Pt H H2 → Rd H2 a (.tup xs) := fun H2 g => ha.gr tg g
  refine ⟨_, rfl, a, xs, rfl, (.inl ha), for_it walk_enumT (fun i σ H2 => ∃ (v1 v2 : Option V), σ = [some (.ref a), v1, v2] ∧ Gr Pt H H2 ∧ fDial 0 none ds = fDial i (prevAt ds i) (ds.drop i) ∧ ∀ j, j < i → ∀ d, ds[j]? = some d → dialD d = true)
    ⟨none, none, rfl, Gr.refl tg, rfl, fun j hj => absurd hj (by omega)⟩ (fun i σ H2 _ ⟨_, _, _, g, _⟩ => (.inl (an H2 g))) ?_ ?_⟩
  · rintro i y σ H2 H3 hi ⟨v1, v2, rfl, gr, ef, hall⟩ ⟨T, x1, x2, rfl, nT, rfl, e1, e2⟩
    cases e1
    have e2 : xs[i]? = some x2 := e2
    obtain ⟨d, hd, ht⟩ := al.get e2
    have sT := sameNew nT (.tup [.int (i : Nat), x2])
    have g3 : Gr Pt H (upd H2 T (.tup [.int (i : Nat), x2])) := gr.trans (Gr.same gr.1 sT)
    refine ⟨T, _, rfl, SqT.of upd_same, rfl, _, _, rfl, _, _, rfl, rfl, ?_⟩
    refine ⟨_, rfl, x2, d, rfl, ht.gr tg g3, g3.1, okSs_get hok hd, fun H4 g4 => ⟨_, rfl, ?_⟩⟩
    have g5 := g3.trans g4
    cases c1 : dialD d with
    | false =>
      have q := k H4 g5
      rw [ef, fDial_bad hd c1] at q
      exact iteT ⟨_, rfl, q⟩
    | true =>
      refine iteF ?_
      refine ⟨_, rfl, _, _, rfl, rfl, _, rfl, ?_⟩
      refine ite2 (fun c2 => ?_) (fun c2 => ?_)
      · have c2' : (0 : Int) < (i : Int) := of_decide_eq_true c2
        obtain ⟨j, rfl⟩ : ∃ j, i = j + 1 := ⟨i - 1, by omega⟩
        have hj : j < xs.length := by omega
        obtain ⟨dj, hdj, htj⟩ := al.get (List.getElem?_eq_getElem hj)
        have cj := hall j (by omega) dj hdj
        obtain ⟨b1, ys1, ex1, hb1, hn1⟩ := dial_name c1 (ht.gr tg g5)
        obtain ⟨b2, ys2, ex2, hb2, hn2⟩ := dial_name cj (htj.gr tg g5)
        subst ex1
        have ek : (((j + 1 : Nat) : Int) - 1) = ((j : Nat) : Int) := by omega
        refine ⟨_, rfl, b1, _, _, _, rfl, rfl, (.inl hb1), atV (i := 0) hn1, _, rfl, _, rfl, _, _, rfl, rfl, a, xs, _, _, rfl, rfl, (.inl (an H4 g5)), (by rw [ek]; exact atV (List.getElem?_eq_getElem hj)), b2, ys2, _, _, ex2, rfl, (.inl hb2), atV (i := 0) hn2, _, _, rfl, rfl, _, rfl, ?_⟩
        have pv : prevAt ds (j + 1) = some (nameOf dj) := by
          show (ds[j]?).map nameOf = _
          rw [hdj]
          rfl
        cases c3 : leS (nameOf d) (nameOf dj) with
        | true =>
          rw [show (!decide ((nameOf dj).cps.toList < (nameOf d).cps.toList)) = true from c3]
          have q := k H4 g5
          rw [ef, fDial_low hd c1 pv c3] at q
          exact iteT ⟨_, rfl, q⟩
        | false =>
          rw [show (!decide ((nameOf dj).cps.toList < (nameOf d).cps.toList)) = false from c3]
          refine iteF ⟨_, _, rfl, g5, ?_, fun m hm dm hdm => ?_⟩
          · rw [ef, fDial_step hd c1 fun p hp => by rw [pv] at hp; cases hp; exact c3]
          · by_cases em : m < j + 1
            · exact hall m em dm hdm
            · have em : m = j + 1 := by omega
              subst em
              rw [hd] at hdm
              cases hdm
              exact c1
      · have i0 : i = 0 := by
          have z := of_decide_eq_false (Bool.eq_false_iff.mpr c2)
          omega
        subst i0
        refine iteF ⟨_, _, rfl, g5, ?_, fun m hm dm hdm => ?_⟩
        · rw [ef, fDial_step hd c1 fun p hp => by cases hp]
        · have em : m = 0 := by omega
          subst em
          rw [hd] at hdm
          cases hdm
          exact c1
  · rintro σ H2 ⟨v1, v2, rfl, gr, ef, _⟩
    have q := k H2 gr
    rw [ef, hl, List.drop_length] at q
    exact q
end
end Pk
namespace Pk
open PySem L2
theorem take_more {α : Type} {ds : List α} {i : Nat} {d : α} (h : ds[i]? = some d) : ds.take (i + 1) = ds.take i ++ [d] := by
  rw [List.take_add_one, h]
  rfl
mutual
/-- data without dicts, as the layer reads it -/
theorem Tr.dp {K : PySem.W.Frag} {H : Hp} : ∀ {v : V} {d : PyData}, Tr H v d → d.hasDict = false → Dp K H v d
  | _, _, .non, _ => .non
  | _, _, .bl b, _ => .bl b
  | _, _, .int i, _ => .int i
  | _, _, .str x, _ => .str x
  | _, _, .lst h a, e => .lst (SqL.of h) (TrAll.dp a (by simpa only [PyData.hasDict] using e))
  | _, _, .tup h a, e => .tup (.inl h) (TrAll.dp a (by simpa only [PyData.hasDict] using e))
  | _, _, .dct _ _ _ _, e => by simp [PyData.hasDict] at e
theorem TrAll.dp {K : PySem.W.Frag} {H : Hp} : ∀ {vs : List V} {ds : List PyData}, TrAll H vs ds → PyData.hasDictAll ds = false → DpAll K H vs ds
  | _, _, .nil, _ => .nil
  | _, _, .cons h t, e => by
    simp only [PyData.hasDictAll, Bool.or_eq_false_iff] at e
    exact .cons (h.dp e.1) (TrAll.dp t e.2)
end
theorem whole_lay {lo hi : Int} {d : PyData} (h : wholeD lo hi d = true) : d.canLay0 = true ∧ d.depth = 0 := by
  cases d with
  | int i => exact ⟨by simp only [PyData.canLay0], by simp only [PyData.depth]⟩
  | _ => cases h
theorem strIs_is {z : Str} {d : PyData} (h : strIs z d = true) : d = .str z := by
  cases d with
  | str y =>
    have e : z = y := by simpa [strIs] using h
    rw [e]
  | _ => cases h
theorem inS_lay {zs : List Str} {d : PyData} (hn : ∀ z ∈ zs, PyData.strOk z = true) (h : inS zs d = true) : d.canLay0 = true ∧ d.depth = 0 := by
  unfold inS at h
  obtain ⟨z, hz, e⟩ := List.any_eq_true.mp h
  rw [strIs_is e]
  exact ⟨by simpa only [PyData.canLay0] using hn z hz, by simp only [PyData.depth]⟩
theorem sorts_ok : ∀ z ∈ sorts2, PyData.strOk z = true := by decide +kernel
theorem pairs_ok : ∀ z ∈ pairs3, PyData.strOk z = true := by decide +kernel
theorem say_lay {ns : List Str} {d : PyData} (hn : ∀ z ∈ ns, PyData.strOk z = true) (h : sayingD ns d = true) : d.canLay0 = true ∧ d.depth ≤ 1 := by
  unfold sayingD at h
  split at h
  · simp only [Bool.and_eq_true] at h
    obtain ⟨a1, a2⟩ := inS_lay hn h.1
    obtain ⟨b1, b2⟩ := inS_lay sorts_ok h.2.1
    obtain ⟨c1, c2⟩ := whole_lay h.2.2
    exact ⟨by simp [PyData.canLay0, PyData.canLayAll0, a1, b1, c1], by simp [PyData.depth, PyData.depthAll, a2, b2, c2]⟩
  · cases h
theorem rule_lay {ns : List Str} {d : PyData} (hn : ∀ z ∈ ns, PyData.strOk z = true) (h : ruleD ns d = true) : d.canLay0 = true ∧ d.depth ≤ 2 := by
  unfold ruleD at h
  split at h
  · simp only [Bool.and_eq_true] at h
    have e := strIs_is h.1
    subst e
    obtain ⟨b1, b2⟩ := say_lay hn h.2.1
    obtain ⟨c1, c2⟩ := say_lay hn h.2.2
    have o : PyData.strOk ("one" : Str) = true := by decide +kernel
    refine ⟨by simp [PyData.canLay0, PyData.canLayAll0, b1, c1, o], ?_⟩
    simp only [PyData.depth, PyData.depthAll]
    omega
  · simp only [Bool.and_eq_true] at h
    obtain ⟨a1, a2⟩ := inS_lay pairs_ok h.1
    obtain ⟨b1, b2⟩ := inS_lay hn h.2.1
    obtain ⟨c1, c2⟩ := inS_lay hn h.2.2.1
    obtain ⟨e1, e2⟩ := whole_lay h.2.2.2.2
    refine ⟨by simp [PyData.canLay0, PyData.canLayAll0, a1, b1, c1, e1], ?_⟩
    simp only [PyData.depth, PyData.depthAll]
    omega
  · cases h
theorem shaped_of {d : PyData} (h : d.canLay0 = true) (hd : d.depth ≤ 64) : SeqAt.shaped d = true := by
  unfold SeqAt.shaped
  rw [Bool.and_eq_true]
  exact ⟨h, decide_eq_true hd⟩
theorem all_lay : ∀ {ds : List PyData}, (∀ d ∈ ds, d.canLay0 = true ∧ d.depth ≤ 2) → PyData.canLayAll0 ds = true ∧ PyData.depthAll ds ≤ 2
  | [], _ => ⟨by simp only [PyData.canLayAll0], by simp [PyData.depthAll]⟩
  | d :: ds, h => by
    obtain ⟨a1, a2⟩ := h d List.mem_cons_self
    obtain ⟨b1, b2⟩ := all_lay fun e he => h e (List.mem_cons_of_mem _ he)
    refine ⟨by simp [PyData.canLayAll0, a1, b1], ?_⟩
    simp only [PyData.depthAll]
    omega
theorem noDict_of {d : PyData} (h : d.canLay0 = true) : d.hasDict = false := PyData.hasDict_of_canLay d h
theorem TrAll.take {H : Hp} : ∀ {xs : List V} {ds : List PyData} (n : Nat), TrAll H xs ds → TrAll H (xs.take n) (ds.take n)
  | _, _, 0, _ => .nil
  | _, _, _ + 1, .nil => .nil
  | _, _, n + 1, .cons h t => .cons h (TrAll.take n t)
theorem fRule_cons (ns : List Str) (k : Nat) (past : List PyData) (r : PyData) (rs : List PyData) : fRule ns k past (r :: rs) = if ruleD ns r = true then (if (past.any fun z => PyData.eqv z r) = true then some k else fRule ns (k + 1) (past ++ [r]) rs) else some k := rfl
theorem cut_take {xs : List V} {i : Nat} (h : i < xs.length) : cutV xs none (some (i : Int)) = xs.take i := by
  unfold cutV
  rw [HT.sIx_none, HT.sIx_nat]
  rw [Nat.min_eq_left (Nat.le_of_lt h), List.drop_zero, Nat.sub_zero]
def spFRule : Sp := fun vs H Q _ => ∃ (a b : Addr) (ns : List Str) (xs : List V) (rs : List PyData), vs = [.ref b, .ref a] ∧ H b = some (.lst (ns.map V.str)) ∧ (∀ z ∈ ns, PyData.strOk z = true) ∧ Rd H a (.tup xs) ∧ TrAll H xs rs ∧ xs.length ≤ 1000 ∧ ∀ H', Same H H' → Q (optV (fRule ns 0 [] rs)) H'
section
variable {P : Program} {w : World} {K : PySem.W.Frag} {mg : Str → Option Value} {base : Heap} {W S R Pt : Addr}
theorem scFRule : FnScope ["names", "rules", "k", "rule"] ["names", "rules"] (defScope sFRule) := ⟨rfl, rfl, rfl, by decide +kernel, rfl, by decide +kernel, by decide +kernel⟩
theorem ok_fRule {f g : Addr} {fd gd : FuncData} (F : Fun K "faulty_rule" "faulty_rule" sFRule f fd)
    (G : FnOk P w K mg base CX0 3 g gd ["names", "thing"] spIsRule) (bG : Binds K gd ["names", "thing"] []) (kG : PySem.W.keepIn K (.ref g) = true) (mG : mg "is_rule" = some (.ref g)) (B : BltH mg) : FnOk P w K mg base CX0 4 f fd ["names", "rules"] spFRule := by
  refine F.ok scFRule (fun vs H Q E h => ?_) (fun cdv A outer s H vs Q E hr h => ?_)
  · obtain ⟨a, b, ns, xs, rs, rfl, _⟩ := h
    rfl
  obtain ⟨a, b, ns, xs, rs, rfl, hb, hn, ha, al, hlen, k⟩ := h
  have hl := al.length
  have hu65 : (A.deeper (PyProof.Rows.envOfC "faulty_rule" (defScope sFRule) s.heap.objs.size f cdv)).units + 65 < cLine := by
    have := hr.un
    omega
  refine ⟨_, pss_cons (ps_for PassesOwn.never rfl (pi_enumT (by rfl) B.enumerate (pa_cons (pv 1) pa_nil)) (pg_tup rfl (pgs_cons (pg_name (i := 2) scFRule.nd rfl (.inl rfl)) (pgs_cons (pg_name (i := 3) scFRule.nd rfl (.inl rfl)) pgs_nil)))
      (pss_one (ps_if (PW.pt (pw_or (pt_not (pt_val (pe_call G hr rfl mG kG bG .nil pass0 (pa_cons (pv 0) (pa_cons (pv 3) pa_nil))))) (pw_or1 (pt_cmpR (op_inDT hu65) (pv 3) (pe_slice sl_tup (pv 1) po_none (po_some (pv 2))) (by rfl))))) (pss_one (ps_ret (pv 2))) pss_nil))) <|
    pss_one (ps_ret pe_non), ?_⟩
  refine ⟨_, rfl, a, xs, rfl, (.inl ha), for_it walk_enumT (fun i σ H2 => ∃ (v1 v2 : Option V), σ = [some (.ref b), some (.ref a), v1, v2] ∧ Same H H2 ∧ fRule ns 0 [] rs = fRule ns i (rs.take i) (rs.drop i) ∧ ∀ d ∈ rs.take i, ruleD ns d = true)
    ⟨none, none, rfl, Same.refl _, rfl, fun d hd => absurd hd (by simp)⟩ (fun i σ H2 _ ⟨_, _, _, g, _⟩ => (.inl (ha.map (g _)))) ?_ ?_⟩
  · rintro i y σ H2 H3 hi ⟨v1, v2, rfl, s2, ef, hall⟩ ⟨T, x1, x2, rfl, nT, rfl, e1, e2⟩
    cases e1
    have e2 : xs[i]? = some x2 := e2
    obtain ⟨d, hd, ht⟩ := al.get e2
    obtain ⟨hi2, ed⟩ := List.getElem?_eq_some_iff.mp hd
    have sT := sameNew nT (.tup [.int (i : Nat), x2])
    have s3 := s2.trans sT
    rw [List.drop_eq_getElem_cons hi2, ed, fRule_cons] at ef
    refine ⟨T, _, rfl, SqT.of upd_same, rfl, _, _, rfl, _, _, rfl, rfl, ?_⟩
    refine ⟨_, rfl, _, rfl, b, ns, x2, d, rfl, s3 _ _ hb, ht.same s3, _, rfl, ?_⟩
    cases c1 : ruleD ns d with
    | false =>
      rw [if_neg (by rw [c1]; exact Bool.false_ne_true)] at ef
      have q := k _ s3
      rw [ef] at q
      exact iteT ⟨_, rfl, q⟩
    | true =>
      rw [if_pos c1] at ef
      refine iteF ?_
      refine ⟨_, rfl, _, rfl, _, rfl, _, rfl, ?_⟩
      have hlt : i < xs.length := hi
      refine ⟨a, xs, rfl, (.inl (ha.map (s3 _))), fun ⟨_, z⟩ => ?_, fun p np => ?_⟩
      · rw [HT.sIx_nat] at z
        omega
      rw [cut_take hlt]
      have s5 := sameNew np (.tup (xs.take i))
      have s4 := s3.trans s5
      obtain ⟨y1, y2⟩ := rule_lay hn c1
      obtain ⟨z1, z2⟩ := all_lay fun e he => rule_lay hn (hall e he)
      have w1 : (PyData.tuple (rs.take i)).canLay0 = true := by simpa only [PyData.canLay0] using z1
      refine ⟨d, rs.take i, (ht.same s4).dp (noDict_of y1), Tr.dp (.tup (.inl upd_same) ((al.same s4).take i)) (noDict_of w1), shaped_of y1 (by omega), shaped_of w1 (by simp only [PyData.depth]; omega), _, rfl, ?_⟩
      cases c2 : (rs.take i).any fun z => PyData.eqv z d with
      | true =>
        rw [if_pos c2] at ef
        have q := k _ s4
        rw [ef] at q
        exact iteT ⟨_, rfl, q⟩
      | false =>
        rw [if_neg (by rw [c2]; exact Bool.false_ne_true), ← take_more hd] at ef
        refine iteF ⟨_, _, rfl, s4, ef, fun e he => ?_⟩
        rw [take_more hd] at he
        rcases List.mem_append.mp he with he | he
        · exact hall e he
        · rw [List.mem_singleton.mp he]
          exact c1
  · rintro σ H2 ⟨v1, v2, rfl, s2, ef, _⟩
    have q := k H2 s2
    rw [ef, hl, List.drop_length] at q
    exact q
end
end Pk
namespace Pk
open PySem L2
def isN : PyData → Bool
  | .none => true
  | _ => false
theorem Tr.isN {H : Hp} {v : V} {d : PyData} (t : Tr H v d) : decide (v = .non) = Pk.isN d := by
  cases t <;> simp [Pk.isN]
def spFault (Pt : Addr) : Sp := fun vs H Q _ => ∃ (x : V) (d : PyData), vs = [x] ∧ Tr H x d ∧ GxR.TabG H Pt ∧ okS d = true ∧ ∀ v H', Gr Pt H H' → Tr H' v (faultD d) → Q v H'
def spHouse (Pt : Addr) : Sp := fun vs H Q _ => ∃ (x : V) (d : PyData), vs = [x] ∧ Tr H x d ∧ GxR.TabG H Pt ∧ okS d = true ∧ ∀ H', Gr Pt H H' → Q (.bl (isN (faultD d))) H'
theorem fDial_none : ∀ {ds : List PyData} {k : Nat} {p : Option Str}, fDial k p ds = none → ∀ d ∈ ds, dialD d = true
  | [], _, _, _, d, h => absurd h (by simp)
  | d :: ds, k, p, e, d', h => by
    rw [fDial_cons] at e
    by_cases c : dialD d = true
    · rw [if_pos c] at e
      have rest : ∀ {o : Option Str}, fDial (k + 1) o ds = none → dialD d' = true := fun {o} e2 => by
        rcases List.mem_cons.mp h with h | h
        · rw [h]; exact c
        · exact fDial_none e2 d' h
      cases p with
      | none => exact rest e
      | some p =>
        simp only at e
        by_cases c2 : leS (nameOf d) p = true
        · rw [if_pos c2] at e
          cases e
        · rw [if_neg c2] at e
          exact rest e
    · rw [if_neg c] at e
      cases e
theorem name_ok {d : PyData} (h : dialD d = true) : PyData.strOk (nameOf d) = true := by
  unfold dialD at h
  split at h
  · rename_i n lo hi way up down
    simp only [Bool.and_eq_true] at h
    cases n with
    | str z =>
      have h1 := h.1
      rw [nameD_str] at h1
      simp only [Bool.and_eq_true] at h1
      show PyData.strOk z = true
      unfold PyData.strOk
      have h2 := h1.2.2
      rw [Array.all_toList] at h2
      rw [Array.all_eq_true] at h2 ⊢
      intro i hi
      have q := h2 i hi
      simp only [smallC, Bool.and_eq_true, decide_eq_true_eq] at q
      simp only [decide_eq_true_eq]
      omega
    | _ => cases h.1
  · cases h
theorem form_is {d : PyData} (h : formD d = true) : ∃ ds rs, d = .tuple [.tuple ds, .tuple rs] ∧ ds.length ≤ 12 ∧ rs.length ≤ 40 := by
  unfold formD at h
  split at h
  · rename_i a b
    simp only [Bool.and_eq_true] at h
    cases a with
    | tuple ds =>
      cases b with
      | tuple rs =>
        have h1 := h.1
        have h2 := h.2
        simp only [tupD, Bool.and_eq_true, decide_eq_true_eq] at h1 h2
        exact ⟨ds, rs, rfl, by omega, by omega⟩
      | _ => cases h.2
    | _ => cases h.1
  · cases h
section
variable {P : Program} {w : World} {K : PySem.W.Frag} {mg : Str → Option Value} {base : Heap} {W S R Pt : Addr}
theorem scFault : FnScope ["thing", "dials", "rules", "k", "dial"] ["thing"] (defScope sFault) := ⟨rfl, rfl, rfl, by decide +kernel, rfl, by decide +kernel, by decide +kernel⟩
theorem ok_fault {f g1 g2 g3 : Addr} {fd d1 d2 d3 : FuncData} (F : Fun K "fault_of" "fault_of" sFault f fd)
    (G1 : FnOk P w K mg base CX0 2 g1 d1 ["thing"] spForm) (b1 : Binds K d1 ["thing"] []) (k1 : PySem.W.keepIn K (.ref g1) = true) (m1 : mg "has_house_form" = some (.ref g1))
    (G2 : FnOk P w K mg base CX0 4 g2 d2 ["dials"] (spFDial Pt)) (b2 : Binds K d2 ["dials"] []) (k2 : PySem.W.keepIn K (.ref g2) = true) (m2 : mg "faulty_dial" = some (.ref g2))
    (G3 : FnOk P w K mg base CX0 4 g3 d3 ["names", "rules"] spFRule) (b3 : Binds K d3 ["names", "rules"] []) (k3 : PySem.W.keepIn K (.ref g3) = true) (m3 : mg "faulty_rule" = some (.ref g3)) : FnOk P w K mg base CX0 5 f fd ["thing"] (spFault Pt) := by
  refine F.ok scFault (fun vs H Q E h => ?_) (fun cdv A outer s H vs Q E hr h => ?_)
  · obtain ⟨x, d, rfl, _⟩ := h
    rfl
  obtain ⟨x, d, rfl, t, tg, hz, k⟩ := h
  have hr1 : Room 2 _ := hr.mono (by decide)
  refine ⟨_, pss_cons (ps_if (pt_not (pt_val (pe_call G1 hr1 rfl m1 k1 b1 .nil pass0 (pa_cons (pv 0) pa_nil)))) (pss_one (ps_ret (pe_tup (pa_cons pe_str pa_nil)))) pss_nil) <|
    pss_cons (ps_asg (pv 0) (pg_tup (by rfl) (pgs_cons (pg_name (i := 1) scFault.nd rfl (.inl rfl)) <| pgs_cons (pg_name (i := 2) scFault.nd rfl (.inl rfl)) pgs_nil))) <|
    pss_cons (ps_set (i := 3) scFault.nd rfl (.inl rfl) (pe_call G2 hr rfl m2 k2 b2 .nil pass0 (pa_cons (pv 1) pa_nil))) <|
    pss_cons (ps_if (pt_cmpR op_notN (pv 3) pe_non (nomark _)) (pss_one (ps_ret (pe_tup (pa_cons pe_str (pa_cons (pv 3) pa_nil))))) pss_nil) <|
    pss_cons (ps_set (i := 3) scFault.nd rfl (.inl rfl) (pe_call G3 hr rfl m3 k3 b3 .nil pass0 (pa_cons (pe_lc (own := [("dial", 4)]) (g := gName 4) (by rfl) scFault.nd (pi_tup (pv 1)) (blkOk_by (N := ["thing", "dials", "rules", "k", "dial"]) (sc := defScope sFault) (by decide +kernel)) (fun _ _ _ _ _ => pg_name (i := 4) scFault.nd rfl (Or.inl rfl)) (fun _ _ _ _ _ => pts_nil) (fun _ _ _ _ _ => pe_ix (r := rIxT K) ix_tup (pv 4) pe_int (fun _ _ => rfl))) (pa_cons (pv 2) pa_nil)))) <|
    pss_cons (ps_if (pt_cmpR op_notN (pv 3) pe_non (nomark _)) (pss_one (ps_ret (pe_tup (pa_cons pe_str (pa_cons (pv 3) pa_nil))))) pss_nil) <|
    pss_one (ps_ret pe_non), ?_⟩
  refine ⟨_, rfl, x, d, rfl, t, _, rfl, ?_⟩
  cases c1 : formD d with
  | false =>
    refine iteT ⟨by show 1 ≤ sizeLine; decide, fun p np => ?_⟩
    refine k _ _ (Gr.same tg (sameNew np _)) ?_
    unfold faultD
    rw [if_neg (by rw [c1]; exact Bool.false_ne_true)]
    exact .tup (.inl upd_same) (.cons (.str _) .nil)
  | true =>
    refine iteF ?_
    obtain ⟨ds, rs, rfl, l1, l2⟩ := form_is c1
    cases t with
    | @tup b xs _ h al =>
    revert h
    match xs, al with
    | [xa, xb], .cons ta (.cons tb .nil) =>
    intro h
    cases ta with
    | @tup a1 xs1 _ h1 al1 =>
    cases tb with
    | @tup a2 xs2 _ h2 al2 =>
    have z1 := al1.length
    have z2 := al2.length
    simp only [okS, okSs, Bool.and_eq_true] at hz
    refine ⟨_, rfl, b, _, rfl, (.inl h), rfl, _, _, rfl, _, _, rfl, rfl, ?_⟩
    refine ⟨_, rfl, a1, xs1, ds, rfl, h1, al1, tg, hz.1, by omega, fun H1 g1 => ?_⟩
    have ef : faultD (.tuple [.tuple ds, .tuple rs]) = (match fDial 0 none ds with
      | some k => .tuple [.str "dial", .int k]
      | none => match fRule (ds.map nameOf) 0 [] rs with
        | some k => .tuple [.str "rule", .int k]
        | none => .none) := by
      unfold faultD
      rw [if_pos c1]
      rfl
    rw [ef] at k
    cases c2 : fDial 0 none ds with
    | some j =>
      rw [c2] at k
      refine ⟨_, rfl, rfl, _, rfl, iteT ?_⟩
      refine ⟨_, rfl, by show 2 ≤ sizeLine; decide, fun p np => ?_⟩
      exact k _ _ (g1.trans (Gr.same g1.1 (sameNew np _))) (.tup (.inl upd_same) (.cons (.str _) (.cons (.int _) .nil)))
    | none =>
      rw [c2] at k
      have hall := fDial_none c2
      refine ⟨_, rfl, rfl, _, rfl, iteF ?_⟩
      have h1' := h1.gr tg g1
      refine ⟨_, rfl, a1, rfl, ⟨_, (.inl h1')⟩, fun D hD => lc_tup (K := K) (a := a1) (xs := xs1) (fun i H2 => H2 D = some (.lst (((ds.take i).map nameOf).map V.str)) ∧ Same H1 H2) ⟨by rw [List.take_zero]; exact upd_same, sameNew hD _⟩ (fun i H2 _ ⟨_, s2⟩ => (.inl (h1'.map (s2 _)))) ?_ ?_⟩
      · rintro i y H2 hy ⟨e2, s2⟩
        obtain ⟨d, hd, hT⟩ := al1.get hy
        have cd := hall d (List.mem_of_getElem? hd)
        obtain ⟨b1, ys1, ex1, hb1, hn1⟩ := dial_name cd ((hT.gr tg g1).same s2)
        subst ex1
        have hi : i < xs1.length := (List.getElem?_eq_some_iff.mp hy).1
        refine ⟨rfl, _, rfl, b1, _, _, _, rfl, rfl, (.inl hb1), atV (i := 0) hn1, _, e2, small1000 (by simp only [List.length_map, List.length_take]; omega), ?_, ?_⟩
        · rw [upd_same, take_more hd]
          simp
        · exact fun b o e => by rw [upd_ne (ne_of_none e hD)]; exact s2 _ _ e
      · rintro H2 ⟨e2, s2⟩
        rw [z1, List.take_length] at e2
        have gA : Gr Pt H H2 := g1.trans (Gr.same g1.1 s2)
        have sok : ∀ z ∈ ds.map nameOf, PyData.strOk z = true := fun z hz => by
          obtain ⟨d, hd, rfl⟩ := List.mem_map.mp hz
          exact name_ok (hall d hd)
        refine ⟨_, rfl, a2, D, _, xs2, rs, rfl, e2, sok, h2.gr tg gA, al2.gr tg gA, by omega, fun H3 s3 => ?_⟩
        have gB := gA.trans (Gr.same gA.1 s3)
        simp only at k
        cases c3 : fRule (ds.map nameOf) 0 [] rs with
        | some j =>
          rw [c3] at k
          refine ⟨_, rfl, rfl, _, rfl, iteT ?_⟩
          refine ⟨_, rfl, by show 2 ≤ sizeLine; decide, fun p np => ?_⟩
          exact k _ _ (gB.trans (Gr.same gB.1 (sameNew np _))) (.tup (.inl upd_same) (.cons (.str _) (.cons (.int _) .nil)))
        | none =>
          rw [c3] at k
          refine ⟨_, rfl, rfl, _, rfl, iteF ?_⟩
          exact k _ _ gB .non
end
end Pk
section
set_option maxHeartbeats 1000000
/-! Rules of my own: a list beside the empty one; a truth as a number; a tuple turned about; not in a list of data. -/
namespace Pk
open PySem L2
section
variable {X : Cx}
theorem op_eqNil (hu : X.A.units < cLine) : OpR X (compareOp .Eq) (fun x y H Q => ∃ (a b : Addr) (xs : List V), x = .ref a ∧ y = .ref b ∧ SqL X.K H a xs ∧ SqL X.K H b [] ∧ Q (.bl xs.isEmpty) H) := by
  intro pz s σ H x y v u Q I rx ry h
  obtain ⟨a, b, xs, rfl, rfl, ha, hb, q⟩ := h
  cases rx
  cases ry
  obtain ⟨its, r, hl, _⟩ := I.list ha
  obtain ⟨its2, r2, hl2, _⟩ := I.list hb
  cases r2
  cases r with
  | nil => exact SeqAt.eq_listAt (e := fun _ => true) hl.isList hl2.isList rfl hu (fun j h1 => absurd h1 (by simp)) ⟨.bl true, H, I, rfl, q⟩
  | cons _ _ => exact SeqAt.eq_list_lengthsAt hl.isList hl2.isList (by simp) hu ⟨.bl false, H, I, rfl, q⟩
theorem op_neNil (hu : X.A.units < cLine) : OpR X (compareOp .NotEq) (fun x y H Q => ∃ (a b : Addr) (xs : List V), x = .ref a ∧ y = .ref b ∧ SqL X.K H a xs ∧ SqL X.K H b [] ∧ Q (.bl (!xs.isEmpty)) H) := by
  intro pz s σ H x y v u Q I rx ry h
  obtain ⟨a, b, xs, rfl, rfl, ha, hb, q⟩ := h
  cases rx
  cases ry
  obtain ⟨its, r, hl, _⟩ := I.list ha
  obtain ⟨its2, r2, hl2, _⟩ := I.list hb
  cases r2
  cases r with
  | nil => exact SeqAt.RcNeAt.lists (e := fun _ => true) hl.isList hl2.isList rfl hu (fun j h1 => absurd h1 (by simp)) X.prog X.w X.xe _ ⟨.bl false, H, I, rfl, q⟩
  | cons _ _ => exact SeqAt.RcNeAt.lists_lengths hl.isList hl2.isList (by simp) hu X.prog X.w X.xe _ ⟨.bl true, H, I, rfl, q⟩
/-- a number, or a truth as one -/
def numV : V → Option Int
  | .int i => some i
  | .bl b => some (if b = true then 1 else 0)
  | _ => none
theorem op_addN : OpR X (binaryOp .Add) (fun x y H Q => ∃ i j, numV x = some i ∧ y = .int j ∧ Q (.int (i + j)) H) := by
  intro pz s σ H x y v u Q I rx ry h
  obtain ⟨i, j, hx, rfl, q⟩ := h
  cases x with
  | int n =>
    cases hx
    exact op_add pz s σ H _ _ v u Q I rx ry ⟨_, _, rfl, rfl, q⟩
  | bl b =>
    cases hx
    cases rx
    obtain ⟨t, rfl⟩ := ry
    exact PySem.IntBool.add_bool_int ⟨.int _, H, I.tok _, ⟨_, rfl⟩, q⟩
  | _ => cases hx
theorem op_subN : OpR X (binaryOp .Sub) (fun x y H Q => ∃ i j, numV x = some i ∧ y = .int j ∧ Q (.int (i - j)) H) := by
  intro pz s σ H x y v u Q I rx ry h
  obtain ⟨i, j, hx, rfl, q⟩ := h
  cases x with
  | int n =>
    cases hx
    exact op_sub pz s σ H _ _ v u Q I rx ry ⟨_, _, rfl, rfl, q⟩
  | bl b =>
    cases hx
    cases rx
    obtain ⟨t, rfl⟩ := ry
    exact PySem.IntBool.sub_bool_int ⟨.int _, H, I.tok _, ⟨_, rfl⟩, q⟩
  | _ => cases hx
theorem op_subM : OpR X (binaryOp .Sub) (fun x y H Q => ∃ i j, x = .int i ∧ numV y = some j ∧ Q (.int (i - j)) H) := by
  intro pz s σ H x y v u Q I rx ry h
  obtain ⟨i, j, rfl, hy, q⟩ := h
  cases y with
  | int n =>
    cases hy
    exact op_sub pz s σ H _ _ v u Q I rx ry ⟨_, _, rfl, rfl, q⟩
  | bl b =>
    cases hy
    cases ry
    obtain ⟨t, rfl⟩ := rx
    exact PySem.IntBool.sub_int_bool ⟨.int _, H, I.tok _, ⟨_, rfl⟩, q⟩
  | _ => cases hy
/-- the text of a number, or of a truth -/
def textV : V → Str
  | .int i => toString i
  | .bl b => if b then "True" else "False"
  | _ => ""
theorem call_strN : CallR X (.type "str") (fun xs H Q => ∃ x i, xs = [x] ∧ numV x = some i ∧ i.natAbs.log2 < 1920 ∧ Q (.str (textV x)) H) := by
  intro pz s σ H xs us Q I r h
  obtain ⟨x, i, rfl, hx, hz, q⟩ := h
  cases x with
  | int n =>
    cases hx
    exact call_str_int pz s σ H _ us Q I r ⟨_, rfl, hz, q⟩
  | bl b =>
    obtain ⟨u, rfl, r1⟩ := vals1 r
    cases r1
    exact PySem.P.str_of_bool ⟨.str _, H, I.tok _, ⟨_, rfl⟩, q⟩
  | _ => cases hx
end
end Pk
namespace Pk
open PySem PySem.Spec PyProof.Rows L2 HT
section
variable {prog : Program} {w : World} {A : Around} {E : Value → Shared → Prop} {s : Shared}
theorem applied_rev {sl : Addr} {vs : Value} {n : Nat} {Q : Int × Int × Nat → Shared → Prop} (hs : s.heap.IsSliceOf sl .none .none vs) (ps : IsPart vs (some (-1)))
    (h : Q ((n : Int) - 1, -1, n) s) : wpAny (model prog w) A (Builtin.Slice.sliceApplied (.ref sl) (pure (n : Int))) Q E s := by
  obtain ⟨os, hos, hcs, hds⟩ := id hs
  unfold Builtin.Slice.sliceApplied Builtin.Slice.sliceFields
  refine wpAny_bind (wpAny_bind (wpAny_field hos hds (x := .none) rfl (wpAny_bind (wpAny_field hos hds (x := .none) rfl (wpAny_bind (wpAny_field hos hds (x := vs) rfl (wpAny_pure ?_)))))))
  refine wpAny_bind (slicePart_ ps ?_)
  show wpAny _ _ (if ((-1 : Int) == 0) = true then _ else _) _ _ s
  rw [if_neg (by decide)]
  refine wpAny_bind (slicePart_none (wpAny_bind (slicePart_none (wpAny_bind (wpAny_pure ?_)))))
  show wpAny _ _ (pure ((n : Int) - 1, (-1 : Int), Builtin.Slice.slicePlaces ((n : Int) - 1) (-1) (-1))) _ _ s
  have e : Builtin.Slice.slicePlaces ((n : Int) - 1) (-1) (-1) = n := by
    unfold Builtin.Slice.slicePlaces
    rw [if_neg (by decide)]
    by_cases h : (n : Int) - 1 > -1
    · rw [if_pos h, show (-(-1) : Int) = 1 by decide, Int.ediv_one]
      omega
    · rw [if_neg h]
      omega
  rw [e]
  exact wpAny_pure h
theorem filterMap_same {α β : Type} {f g : α → Option β} : ∀ {l : List α}, (∀ x ∈ l, f x = g x) → l.filterMap f = l.filterMap g
  | [], _ => rfl
  | x :: l, h => by
    rw [List.filterMap_cons, List.filterMap_cons, h x List.mem_cons_self, filterMap_same fun y hy => h y (List.mem_cons_of_mem _ hy)]
theorem pick_rev (xs : Array Value) : ((List.range xs.size).filterMap fun (m : Nat) => xs[(((xs.size : Int) - 1) + (m : Int) * (-1)).toNat]?).toArray = xs.toList.reverse.toArray := by
  have e := PySem.W.krv_pick xs
  unfold slicePick at e
  rw [PySem.W.krv_bounds] at e
  rw [← e]
  show _ = ((sliceRange ((xs.size : Int) - 1) (-1) (-1)).filterMap (xs[·]?)).toArray
  rw [PySem.W.krv_sliceRange, List.filterMap_map]
  congr 1
  apply filterMap_same
  intro m hm
  have := List.mem_range.mp hm
  show xs[_]? = xs[xs.size - 1 - m]?
  congr 1
  omega
theorem getItem_tup_rev {t sl : Addr} {items : Array Value} {vs : Value} {Q : Value → Shared → Prop} (ht : IsTup s.heap t items) (hs : s.heap.IsSliceOf sl .none .none vs) (ps : IsPart vs (some (-1)))
    (h : Q (.ref s.heap.objs.size) { s with heap := s.heap.push { cls := .type "tuple", data := .seq items.toList.reverse.toArray } })
    (hsz : items.size ≤ sizeLine) : wpAny (model prog w) A (getItem (.ref t) (.ref sl)) Q E s := by
  have htake : sizeOk (.seq items.toList.reverse.toArray) := by
    show items.toList.reverse.toArray.size ≤ sizeLine
    rw [List.size_toArray, List.length_reverse, Array.length_toList]
    omega
  obtain ⟨os, hos, hcs, hds⟩ := id hs
  have hTs : s.TypeIs (.ref sl) "slice" := ⟨os, hos, hcs⟩
  unfold getItem
  try with_reducible refine wpAny_holding ?_
  first | refine wpAny_bind (wpAny_pure ?_) | skip
  refine wpAny_bind (wpAny_sequenceKey ht.typeIs (by decide) ?_)
  refine wpAny_bind (wpAny_callSpecial?_slot (name := Str.ofString "__getitem__") ht.typeIs PyProof.Rows.slot_tuple_getitem
    (wpAny_call_entry PyProof.Rows.slot_tuple_getitem ht.typeIs entry_tuple_getitem ?_ (args_tuple_getitem _ _)))
  show wpAny _ _ (Builtin.Tuple.tupleItemsOf (.ref t) >>= _) _ _ s
  refine wpAny_bind (tupleItemsOf_ ht ?_)
  refine wpAny_bind (wpAny_typeOf hTs ?_)
  rw [if_pos (by decide)]
  refine wpAny_bind (applied_rev hs ps ?_)
  have hno : ¬ ((((items.size : Int) - 1) == 0 && (-1 : Int) == 1 && items.size == items.size) = true) := by simp
  show wpAny _ _ (if (((items.size : Int) - 1) == 0 && (-1 : Int) == 1 && items.size == items.size) = true then _ else _) _ _ s
  rw [if_neg hno, pick_rev]
  first
    | exact wpAny_bind (m := Builtin.Tuple.tupleExact _) (wpAny_newObj_type (wpAny_pure ⟨_, rfl, wpAny_pure h⟩) htake)
    | exact wpAny_bind (m := Builtin.Tuple.tupleExact _) (wpAny_newObj_type (wpAny_bind (wpAny_pure (wpAny_pure ⟨_, rfl, wpAny_pure h⟩))) htake)
    | exact wpAny_bind (wpAny_bind (m := Builtin.Tuple.tupleExact _) (wpAny_newObj_type (wpAny_pure (wpAny_pure ⟨_, rfl, wpAny_pure h⟩)) htake))
    | exact wpAny_bind (wpAny_bind (m := Builtin.Tuple.tupleExact _) (wpAny_newObj_type (wpAny_pure ⟨_, rfl, wpAny_pure h⟩) htake))
end
section
variable {X : Cx}
/-- t[::-1], t a tuple -/
def tRevT (K : PySem.W.Frag) (te : TE) : TE := fun σ H Q => te σ H fun x H1 => ∃ a xs, x = .ref a ∧ SqT K H1 a xs ∧ ∀ p, H1 p = none → Q (.ref p) (upd H1 p (.tup xs.reverse))
theorem pe_revT {e : Expr} {te : TE} {k : Nat} {p1 p2 p3 pos : Pos} (he : PE X e te) : PE X (.Subscript e (.Slice none none (some (.UnaryOp .USub (.Constant (.int 1) k p1) p2)) p3) pos) (tRevT X.K te) := by
  refine ⟨fun pins s σ H Q I h => ?_⟩
  refine Subscript_ (thn (he.run pins s σ H _ I h) fun v s1 ⟨x, H1, I1, r1, q1⟩ => ?_)
  obtain ⟨a, xs, ex, hx, q⟩ := q1
  subst ex
  cases r1
  have hst : PO X (some (.UnaryOp .USub (.Constant (.int 1) k p1) p2)) (tPart (tUn (rU fun i => .int (-i)) (tC (.int 1)))) := po_some (pe_un un_neg pe_int)
  refine wpAny_Slice (thn (po_none.run pins s1 σ H1 (fun o H2 => o = none ∧ H2 = H1) I1 ⟨rfl, rfl⟩) fun vl s2 ⟨l, H2, I2, pl, el, e2⟩ => ?_)
  subst el e2
  refine thn (po_none.run pins s2 σ H2 (fun o H3 => o = none ∧ H3 = H2) I2 ⟨rfl, rfl⟩) fun vu s3 ⟨u, H3, I3, pu, eu, e3⟩ => ?_
  subst eu e3
  refine thn (hst.run pins s3 σ H3 (fun o H4 => o = some (-1) ∧ H4 = H3) I3 ⟨1, rfl, -1, rfl, rfl, rfl⟩) fun vs s4 ⟨o, H4, I4, ps, eo, e4⟩ => ?_
  subst eo e4
  cases pl
  cases pu
  have I5 : L2.Inv X pins σ H4 { s4 with heap := s4.heap.push { cls := .type "slice", data := .fields #[.none, .none, vs] } } := I4.kept (t' := s4.toks) fun b ob q => Heap.get?_push_of_some _ q
  obtain ⟨its, r, ht, hz⟩ := I5.tuple hx
  have hlen := r.length
  show wpAny (model X.prog X.w) X.A (subscriptTail e (.Slice none none (some (.UnaryOp .USub (.Constant (.int 1) k p1) p2)) p3) (.ref a) (.ref s4.heap.objs.size)) (EP X pins σ Q) X.xe _
  refine tail_any (ops := [.ref a, .ref s4.heap.objs.size]) ht.typeIs (PyProof.Rows.slot_tuple_getitem.lookup) ?_ (by with_unfolding_all rfl)
  refine getItem_tup_rev ht (Heap.IsSliceOf.new _ .none .none vs) ps ?_ (by rw [List.size_toArray]; omega)
  refine ⟨.ref _, _, I5.laid (t' := s4.toks) (o := .tup xs.reverse) (fun b ob q => Heap.get?_push_of_some _ q) (Nat.le_refl _) ?_, rfl, q _ (I5.hok.fresh (Nat.le_refl _))⟩
  exact ⟨by rw [List.length_reverse]; exact hz, _, r.reverse, IsTup.new _ _⟩
end
end Pk
end
/-! The law's own look: the same as the mirror. -/
namespace Pk
open PySem L2
def letters : Str := "abcdefghijklmnopqrstuvwxyz"
theorem lettersL : letters.cps.toList = List.range' 97 26 := by decide +kernel
theorem in_letters (c : Nat) : decide (c ∈ letters.cps.toList) = smallC c := by
  rw [lettersL]
  unfold smallC
  by_cases h1 : 97 ≤ c <;> by_cases h2 : c ≤ 122 <;> simp [List.mem_range'_1, h1, h2] <;> omega
def spLName : Sp := fun vs H Q _ => ∃ (x : V) (d : PyData), vs = [x] ∧ Tr H x d ∧ okS d = true ∧ ∀ H', Same H H' → Q (.bl (nameD d)) H'
def spLDial : Sp := fun vs H Q _ => ∃ (x : V) (d : PyData), vs = [x] ∧ Tr H x d ∧ okS d = true ∧ ∀ H', Same H H' → Q (.bl (dialD d)) H'
def spLSay : Sp := fun vs H Q _ => ∃ (a : Addr) (ns : List Str) (x : V) (d : PyData), vs = [.ref a, x] ∧ H a = some (.lst (ns.map V.str)) ∧ Tr H x d ∧ ∀ H', Same H H' → Q (.bl (sayingD ns d)) H'
def spLRule : Sp := fun vs H Q _ => ∃ (a : Addr) (ns : List Str) (x : V) (d : PyData), vs = [.ref a, x] ∧ H a = some (.lst (ns.map V.str)) ∧ Tr H x d ∧ ∀ H', Same H H' → Q (.bl (ruleD ns d)) H'
theorem e18 : (10 : Int) ^ (18 : Int).toNat = farS := by decide +kernel
theorem e20 : (10 : Int) ^ (20 : Int).toNat = greatS := by decide +kernel
theorem e6 : (10 : Int) ^ (6 : Int).toNat = 1000000 := by decide +kernel
section
variable {P : Program} {w : World} {K : PySem.W.Frag} {mg : Str → Option Value} {base : Heap}
end
end Pk
namespace Pk
open PySem L2
abbrev sPen : Stmt := topH 57
abbrev sDraw : Stmt := topH 58
abbrev sPick : Stmt := topH 59
abbrev sShuf : Stmt := topH 60
abbrev sNames : Stmt := topH 61
abbrev sAny : Stmt := topH 62
abbrev sFrom : Stmt := topH 63
abbrev sPriceL : Stmt := topH 64
abbrev sDial : Stmt := topH 65
abbrev sSay : Stmt := topH 66
abbrev sTSay : Stmt := topH 67
abbrev sTRule : Stmt := topH 68
abbrev sHouseL : Stmt := topH 69
abbrev sLaw : Stmt := topH 82
theorem small {n : Nat} (h : n ≤ 1000) : n ≤ sizeLine := Nat.le_of_lt (small1000 h)
/-- all but p stays -/
def Sb (p : Addr) (H H' : Hp) : Prop := Same (del H p) (del H' p)
theorem Sb.of {p : Addr} {H H' : Hp} (h : ∀ b o, b ≠ p → H b = some o → H' b = some o) : Sb p H H' := fun b o e => by
  by_cases hb : b = p
  · subst hb
    rw [del_same] at e
    cases e
  · rw [del_ne hb] at e ⊢
    exact h b o hb e
theorem Sb.to {p : Addr} {H H' : Hp} (s : Sb p H H') {b : Addr} {o : HO} (hb : b ≠ p) (e : H b = some o) : H' b = some o := by
  have z := s b o (by rw [del_ne hb]; exact e)
  rw [del_ne hb] at z
  exact z
theorem Sb.same {p : Addr} {H H' : Hp} (s : Same H H') : Sb p H H' := .of fun b o _ e => s b o e
theorem Sb.trans {p : Addr} {H H1 H2 : Hp} (a : Sb p H H1) (b : Sb p H1 H2) : Sb p H H2 := Same.trans a b
theorem Sb.refl (p : Addr) (H : Hp) : Sb p H H := Same.refl _
theorem Sb.upd {p : Addr} {H : Hp} (o : HO) : Sb p H (upd H p o) := .of fun b u hb e => by rw [upd_ne hb]; exact e
/-- what stands apart from p stands -/
theorem delSame {p : Addr} {H : Hp} : Same (del H p) H := fun b o e => by
  by_cases hb : b = p
  · subst hb
    rw [del_same] at e
    cases e
  · rw [del_ne hb] at e
    exact e
theorem delNew {H : Hp} {p q : Addr} (h : p ≠ q) (hq : H q = none) (o : HO) : del (upd H q o) p q = some o := by
  rw [del_ne h.symm, upd_same]

/-- the pen: its cells at c, the turn, what is left of a great cell -/
def penK (c : Addr) (t r : Int) : List (Key × V) := [(Sum.inr "cells", .ref c), (Sum.inr "turn", .int t), (Sum.inr "rest", .int r)]
structure PenAt (H : Hp) (p c : Addr) (ns : List Int) (t r : Int) : Prop where
  at_ : H p = some (.dK (penK c t r))
  cells : H c = some (.lst (ns.map V.int))
  len : ns.length ≤ 63
  t0 : 0 ≤ t
  r0 : 0 ≤ r
theorem PenAt.ne {H : Hp} {p c : Addr} {ns : List Int} {t r : Int} (P : PenAt H p c ns t r) : c ≠ p := ne_of P.cells P.at_ (by intro z; cases z)
theorem PenAt.upd {H : Hp} {p c : Addr} {ns : List Int} {t r t' r' : Int} (P : PenAt H p c ns t r) (h1 : 0 ≤ t') (h2 : 0 ≤ r') : PenAt (upd H p (.dK (penK c t' r'))) p c ns t' r' :=
  ⟨upd_same, by rw [upd_ne P.ne]; exact P.cells, P.len, h1, h2⟩
theorem PenAt.same {H H' : Hp} {p c : Addr} {ns : List Int} {t r : Int} (P : PenAt H p c ns t r) (s : Same H H') : PenAt H' p c ns t r := ⟨s _ _ P.at_, s _ _ P.cells, P.len, P.t0, P.r0⟩
section
variable {H : Hp} {p c : Addr} {ns : List Int} {t r : Int}
theorem dg_rest (P : PenAt H p c ns t r) : DGet H p (.str "rest") (some (.int r)) := .inl ⟨_, .inr "rest", .inl P.at_, rfl, rfl⟩
theorem dg_turn (P : PenAt H p c ns t r) : DGet H p (.str "turn") (some (.int t)) := .inl ⟨_, .inr "turn", .inl P.at_, rfl, rfl⟩
theorem dg_cells (P : PenAt H p c ns t r) : DGet H p (.str "cells") (some (.ref c)) := .inl ⟨_, .inr "cells", .inl P.at_, rfl, rfl⟩
theorem dp_turn (P : PenAt H p c ns t r) (z : Int) : DPut H p (.str "turn") (.int z) (upd H p (.dK (penK c z r))) := .inl ⟨_, .inr "turn", P.at_, rfl, small1000 (by show 3 ≤ 1000; decide), rfl⟩
theorem dp_rest (P : PenAt H p c ns t r) (z : Int) : DPut H p (.str "rest") (.int z) (upd H p (.dK (penK c t z))) := .inl ⟨_, .inr "rest", P.at_, rfl, small1000 (by show 3 ≤ 1000; decide), rfl⟩
end
theorem canInts : ∀ ns : List Int, PyData.canLayAll0 (ns.map PyData.int) = true
  | [] => by simp only [List.map_nil, PyData.canLayAll0]
  | n :: ns => by simp [PyData.canLayAll0, PyData.canLay0, canInts ns]
theorem depthInts : ∀ ns : List Int, PyData.depthAll (ns.map PyData.int) = 0
  | [] => by simp only [List.map_nil, PyData.depthAll]
  | n :: ns => by simp [PyData.depthAll, PyData.depth, depthInts ns]
theorem shapedInts (ns : List Int) : SeqAt.shaped (.list (ns.map PyData.int)) = true := by
  unfold SeqAt.shaped
  rw [Bool.and_eq_true]
  refine ⟨by simp only [PyData.canLay0]; exact canInts ns, decide_eq_true ?_⟩
  simp only [PyData.depth, depthInts]
  omega
theorem dpInts {K : PySem.W.Frag} {H : Hp} : ∀ ns : List Int, DpAll K H (ns.map V.int) (ns.map PyData.int)
  | [] => .nil
  | n :: ns => .cons (.int n) (dpInts ns)
theorem eqvNil (ns : List Int) : PyData.eqv (.list (ns.map PyData.int)) (.list []) = ns.isEmpty := by
  cases ns with
  | nil => rfl
  | cons n ns => rfl
/-- a cell -/
theorem atCell {ns : List Int} {k : Int} (h0 : 0 ≤ k) (h : k < (ns.length : Int)) : ∃ v : Int, atI (ns.map V.int) k = some (.int v) := by
  have hk : k.toNat < ns.length := by omega
  have ek : k = ((k.toNat : Nat) : Int) := by omega
  have q : atI (ns.map V.int) ((k.toNat : Nat) : Int) = some (.int ns[k.toNat]) := atI_nat (by rw [List.getElem?_map, List.getElem?_eq_getElem hk] <;> rfl)
  rw [← ek] at q
  exact ⟨_, q⟩
def primes : List Int := [2147483647, 2147483629, 2147483587, 2147483579, 2147483563]
theorem atPrime {k : Int} (h0 : 0 ≤ k) (h : k < 5) : ∃ v : Int, atI (primes.map V.int) k = some (.int v) ∧ 2147483563 ≤ v ∧ v ≤ 2147483647 := by
  rcases (show k = 0 ∨ k = 1 ∨ k = 2 ∨ k = 3 ∨ k = 4 by omega) with rfl | rfl | rfl | rfl | rfl
  · exact ⟨2147483647, rfl, by decide, by decide⟩
  · exact ⟨2147483629, rfl, by decide, by decide⟩
  · exact ⟨2147483587, rfl, by decide, by decide⟩
  · exact ⟨2147483579, rfl, by decide, by decide⟩
  · exact ⟨2147483563, rfl, by decide, by decide⟩

theorem mulOk {a q j : Int} (h : 0 < q) (h2 : q ≤ 2147483647) : CMul (a % q) j := by
  have h3 := Int.emod_nonneg a (show q ≠ 0 by omega)
  have h4 := Int.emod_lt_of_pos a h
  left
  constructor <;> omega

/-! ### promises -/
/-- _law_draw: a number below many; the pen goes on -/
def spDraw : Sp := fun vs H Q _ => ∃ (p c : Addr) (ns : List Int) (t r m : Int), vs = [.ref p, .int m] ∧ PenAt H p c ns t r ∧ t ≤ 1000000000 ∧ 1 ≤ m ∧ m ≤ 1000000000 ∧
  ∀ (v t' r' : Int) (H' : Hp), 0 ≤ v → v < m → t' ≤ t + 1 → PenAt H' p c ns t' r' → Sb p H H' → Q (.int v) H'
structure Blt (mg : Str → Option Value) : Prop where
  len : mg "len" = none
  abs : mg "abs" = none
  list : mg "list" = none
  tuple : mg "tuple" = none
  dict : mg "dict" = none
  isinstance : mg "isinstance" = none
  range : mg "range" = none
  repr : mg "repr" = none
  sorted : mg "sorted" = none
  min : mg "min" = none
  max : mg "max" = none
  int : mg "int" = none
  str : mg "str" = none
section
variable {P : Program} {w : World} {K : PySem.W.Frag} {mg : Str → Option Value} {base : Heap}
theorem scDraw : FnScope ["_law_pen_here", "_law_many", "_law_digit", "_law_turn", "_law_cell", "_law_primes", "_law_prime", "_law_mixed"] ["_law_pen_here", "_law_many"] (defScope sDraw) := ⟨rfl, rfl, rfl, by decide +kernel, rfl, by decide +kernel, by decide +kernel⟩
set_option maxHeartbeats 4000000 in
theorem ok_draw {f : Addr} {fd : FuncData} (F : Fun K "_law_draw" "_law_draw" sDraw f fd) (B : Blt mg) : FnOk P w K mg base CX0 1 f fd ["_law_pen_here", "_law_many"] spDraw := by
  refine F.ok scDraw (fun vs H Q E h => ?_) (fun cdv A outer s H vs Q E hr h => ?_)
  · obtain ⟨p, c, ns, t, r, m, rfl, _⟩ := h
    rfl
  obtain ⟨p, c, ns, t, r, m, rfl, pen, ht, hm1, hm2, k⟩ := h
  have hu := hu_of hr
  refine ⟨_, pss_cons (ps_if (pt_cmpR op_gt (pe_dget hu (pv 0) pe_str (fun _ _ => rfl)) pe_int (nomark _))
      (pss_cons (ps_set (i := 2) scDraw.nd rfl (.inl rfl) (pe_op op_mod (pe_dget hu (pv 0) pe_str (fun _ _ => rfl)) (pv 1)))
      (pss_cons (ps_dput hu (pv 0) pe_str (pe_op op_fdiv (pe_dget hu (pv 0) pe_str (fun _ _ => rfl)) (pv 1)) rfl)
      (pss_one (ps_ret (pv 2))))) pss_nil) <|
    pss_cons (ps_set (i := 3) scDraw.nd rfl (.inl rfl) (pe_dget hu (pv 0) pe_str (fun _ _ => rfl))) <|
    pss_cons (ps_dput hu (pv 0) pe_str (pe_op op_add (pv 3) pe_int) rfl) <|
    pss_cons (ps_set (i := 4) scDraw.nd rfl (.inl rfl) (pe_op op_add (pe_op op_mul pe_int (pv 3)) pe_int)) <|
    pss_cons (ps_if (pt_cmpR (op_neD hr.units) (pe_dget hu (pv 0) pe_str (fun _ _ => rfl)) (pe_lst pa_nil) (nomark _))
      (pss_one (ps_set (i := 4) scDraw.nd rfl (.inl rfl) (pe_ix ix_list (pe_dget hu (pv 0) pe_str (fun _ _ => rfl)) (pe_op op_mod (pv 3) (pe_callB call_len_seq (by rfl) B.len PySem.boot_len (pa_cons (pe_dget hu (pv 0) pe_str (fun _ _ => rfl)) pa_nil))) (fun _ _ => rfl)))) pss_nil) <|
    pss_cons (ps_if (PW.pt (pw_and (pt_cmpR op_lt (pv 3) (pe_callB call_len_seq (by rfl) B.len PySem.boot_len (pa_cons (pe_dget hu (pv 0) pe_str (fun _ _ => rfl)) pa_nil)) (nomark _))
        (pw_and1 (pt_cmpR op_ge (pe_callB call_abs (by rfl) B.abs (by decide +kernel) (pa_cons (pv 4) pa_nil)) (pe_op op_pow pe_int pe_int) (nomark _)))))
      (pss_cons (ps_dput hu (pv 0) pe_str (pe_op op_fdiv (pe_op op_sub (pe_callB call_abs (by rfl) B.abs (by decide +kernel) (pa_cons (pv 4) pa_nil)) (pe_op op_pow pe_int pe_int)) (pv 1)) rfl)
      (pss_one (ps_ret (pe_op op_mod (pe_op op_sub (pe_callB call_abs (by rfl) B.abs (by decide +kernel) (pa_cons (pv 4) pa_nil)) (pe_op op_pow pe_int pe_int)) (pv 1))))) pss_nil) <|
    pss_cons (ps_set (i := 5) scDraw.nd rfl (.inl rfl) (pe_lst (pa_cons pe_int (pa_cons pe_int (pa_cons pe_int (pa_cons pe_int (pa_cons pe_int pa_nil))))))) <|
    pss_cons (ps_set (i := 6) scDraw.nd rfl (.inl rfl) (pe_ix ix_list (pv 5) (pe_op op_mod (pv 3) pe_int) (fun _ _ => rfl))) <|
    pss_cons (ps_set (i := 7) scDraw.nd rfl (.inl rfl) (pe_op op_mod (pe_op op_add (pe_op op_add (pe_op op_mul (pe_op op_mod (pv 4) (pv 6)) pe_int) (pe_op op_mul (pe_op op_mul pe_int (pv 3)) (pv 3))) pe_int) (pv 6))) <|
    pss_cons (ps_set (i := 7) scDraw.nd rfl (.inl rfl) (pe_op op_mod (pe_op op_mul (pv 7) (pe_op op_add (pv 7) pe_int)) (pe_ix ix_list (pv 5) (pe_op op_mod (pe_op op_add (pv 3) pe_int) pe_int) (fun _ _ => rfl)))) <|
    pss_one (ps_ret (pe_op op_mod (pe_op op_fdiv (pe_op op_mod (pe_op op_mul (pv 7) (pv 7)) pe_int) pe_int) (pv 1))), ?_⟩
  -- is something left
  refine ⟨_, rfl, p, _, rfl, dg_rest pen, _, _, rfl, rfl, _, rfl, ?_⟩
  refine ite2 (fun cz => ?_) (fun cz => ?_)
  · have r1 := of_decide_eq_true cz
    refine ⟨_, rfl, p, _, rfl, dg_rest pen, _, rfl, _, _, rfl, rfl, (show (0 : Int) < m by omega), ?_⟩
    refine ⟨_, rfl, p, _, rfl, dg_rest pen, _, rfl, _, _, rfl, rfl, (show 0 < m ∧ m < 1073741824 from ⟨by omega, by omega⟩), _, rfl, p, _, rfl, dp_rest pen _, ?_⟩
    refine ⟨_, rfl, ?_⟩
    exact k _ t (r / m) _ (Int.emod_nonneg _ (by omega)) (Int.emod_lt_of_pos _ (by omega)) (by omega) (pen.upd pen.t0 (Int.ediv_nonneg pen.r0 (by omega))) (Sb.upd _)
  -- a turn more
  refine ⟨_, rfl, p, _, rfl, dg_turn pen, ?_⟩
  refine ⟨_, rfl, _, _, rfl, rfl, _, rfl, p, _, rfl, dp_turn pen _, ?_⟩
  have pen1 := pen.upd (t' := t + 1) (r' := r) (by have := pen.t0; omega) pen.r0
  have s1 : Sb p H (upd H p (.dK (penK c (t + 1) r))) := Sb.upd _
  refine ⟨_, rfl, _, _, rfl, rfl, (by left; constructor <;> decide), _, _, rfl, rfl, ?_⟩
  refine ⟨_, rfl, p, _, rfl, dg_cells pen1, (by show 0 ≤ sizeLine; decide), fun e1 he1 => ?_⟩
  -- are there cells
  have c1 : c ≠ e1 := ne_of_none pen1.cells he1
  have n1 : Same (upd H p (.dK (penK c (t + 1) r))) (upd (upd H p (.dK (penK c (t + 1) r))) e1 (.lst [])) := sameNew he1 _
  have pen2 := pen1.same n1
  refine ⟨.list (ns.map PyData.int), .list [], .lst (SqL.of pen2.cells) (dpInts ns), .lst (SqL.of upd_same) .nil, shapedInts ns, shapedInts [], _, rfl, ?_⟩
  rw [eqvNil]
  have s2 : Sb p H (upd (upd H p (.dK (penK c (t + 1) r))) e1 (.lst [])) := s1.trans (.same n1)
  generalize upd (upd H p (.dK (penK c (t + 1) r))) e1 (.lst []) = H2 at pen2 s2 ⊢
  have hl : (ns.map V.int).length = ns.length := List.length_map _
  have ht0 := pen.t0
  refine ite2 (fun cy => ?w1) (fun cy => ?w2)
  case' w1 =>
    have hne : 0 < ns.length := by
      cases ns with
      | nil => simp at cy
      | cons n ns => simp
    have hb0 : 0 ≤ t % (ns.length : Int) := Int.emod_nonneg _ (by omega)
    have hb1 : t % (ns.length : Int) < (ns.length : Int) := Int.emod_lt_of_pos _ (by omega)
    obtain ⟨z, hz⟩ := atCell hb0 hb1
    refine ⟨_, rfl, p, _, rfl, dg_cells pen2, _, rfl, _, rfl, p, _, rfl, dg_cells pen2, c, _, rfl, .inl (SqL.of pen2.cells), _, _, rfl, rfl, (by show (0 : Int) < (((ns.map V.int).length : Nat) : Int); rw [hl]; omega), ?_⟩
    refine ⟨c, _, _, _, rfl, rfl, SqL.of pen2.cells, (by rw [hl]; exact hz), ?_⟩
  all_goals
    -- a great cell
    refine ⟨_, rfl, _, rfl, p, _, rfl, dg_cells pen2, c, _, rfl, .inl (SqL.of pen2.cells), _, _, rfl, rfl, _, rfl, ?_⟩
    refine ite2 (fun cx => ?_) (fun cx => ?_)
    · refine ⟨_, rfl, _, rfl, _, _, rfl, rfl, ⟨by decide, by decide, by decide⟩, _, _, rfl, rfl, _, rfl, ?_⟩
      refine ite2 (fun cw => ?_) (fun cw => ?_)
      · have cw' := of_decide_eq_true cw
        refine ⟨_, rfl, _, rfl, _, _, rfl, rfl, ⟨by decide, by decide, by decide⟩, _, _, rfl, rfl, _, rfl, _, _, rfl, rfl, (show 0 < m ∧ m < 1073741824 from ⟨by omega, by omega⟩), _, rfl, p, _, rfl, dp_rest pen2 _, ?_⟩
        refine ⟨_, rfl, _, rfl, _, _, rfl, rfl, ⟨by decide, by decide, by decide⟩, _, _, rfl, rfl, _, rfl, _, _, rfl, rfl, (show (0 : Int) < m by omega), ?_⟩
        refine k _ (t + 1) _ _ (Int.emod_nonneg _ (by omega)) (Int.emod_lt_of_pos _ (by omega)) (by omega) (pen2.upd (by omega) (Int.ediv_nonneg (by omega) (by omega))) (s2.trans (Sb.upd _))
      · refine ⟨(by show 5 ≤ sizeLine; decide), fun e2 he2 => ?_⟩
        have n2 : Same H2 (upd H2 e2 (.lst (primes.map V.int))) := sameNew he2 _
        obtain ⟨q1, hq1, g1, g2⟩ := atPrime (k := t % 5) (by omega) (by omega)
        obtain ⟨q2, hq2, g3, g4⟩ := atPrime (k := (t + 2) % 5) (by omega) (by omega)
        refine ⟨_, rfl, _, rfl, _, _, rfl, rfl, (by show (0 : Int) < 5; decide), e2, primes.map V.int, _, _, rfl, rfl, SqL.of upd_same, hq1, ?_⟩
        refine ⟨_, rfl, _, rfl, _, _, rfl, rfl, (show (0 : Int) < q1 by omega), _, _, rfl, rfl, (by right; constructor <;> decide), _, rfl, _, _, rfl, rfl, (by left; constructor <;> decide), _, rfl, _, _, rfl, rfl, (by right; constructor <;> omega), _, _, rfl, rfl, _, _, rfl, rfl, _, rfl, _, _, rfl, rfl, (show (0 : Int) < q1 by omega), ?_⟩
        refine ⟨_, rfl, _, rfl, _, _, rfl, rfl, _, _, rfl, rfl, mulOk (by omega) g2, _, rfl, _, rfl, _, _, rfl, rfl, _, _, rfl, rfl, (by show (0 : Int) < 5; decide), e2, primes.map V.int, _, _, rfl, rfl, SqL.of upd_same, hq2, _, _, rfl, rfl, (show (0 : Int) < q2 by omega), ?_⟩
        refine ⟨_, rfl, _, rfl, _, _, rfl, rfl, mulOk (by omega) g4, _, _, rfl, rfl, (by show (0 : Int) < 2147483549; decide), _, _, rfl, rfl, ⟨by decide, by decide⟩, _, rfl, _, _, rfl, rfl, (show (0 : Int) < m by omega), ?_⟩
        exact k _ (t + 1) r _ (Int.emod_nonneg _ (by omega)) (Int.emod_lt_of_pos _ (by omega)) (by omega) (pen2.same n2) (s2.trans (.same n2))
    · refine ⟨(by show 5 ≤ sizeLine; decide), fun e2 he2 => ?_⟩
      have n2 : Same H2 (upd H2 e2 (.lst (primes.map V.int))) := sameNew he2 _
      obtain ⟨q1, hq1, g1, g2⟩ := atPrime (k := t % 5) (by omega) (by omega)
      obtain ⟨q2, hq2, g3, g4⟩ := atPrime (k := (t + 2) % 5) (by omega) (by omega)
      refine ⟨_, rfl, _, rfl, _, _, rfl, rfl, (by show (0 : Int) < 5; decide), e2, primes.map V.int, _, _, rfl, rfl, SqL.of upd_same, hq1, ?_⟩
      refine ⟨_, rfl, _, rfl, _, _, rfl, rfl, (show (0 : Int) < q1 by omega), _, _, rfl, rfl, (by right; constructor <;> decide), _, rfl, _, _, rfl, rfl, (by left; constructor <;> decide), _, rfl, _, _, rfl, rfl, (by right; constructor <;> omega), _, _, rfl, rfl, _, _, rfl, rfl, _, rfl, _, _, rfl, rfl, (show (0 : Int) < q1 by omega), ?_⟩
      refine ⟨_, rfl, _, rfl, _, _, rfl, rfl, _, _, rfl, rfl, mulOk (by omega) g2, _, rfl, _, rfl, _, _, rfl, rfl, _, _, rfl, rfl, (by show (0 : Int) < 5; decide), e2, primes.map V.int, _, _, rfl, rfl, SqL.of upd_same, hq2, _, _, rfl, rfl, (show (0 : Int) < q2 by omega), ?_⟩
      refine ⟨_, rfl, _, rfl, _, _, rfl, rfl, mulOk (by omega) g4, _, _, rfl, rfl, (by show (0 : Int) < 2147483549; decide), _, _, rfl, rfl, ⟨by decide, by decide⟩, _, rfl, _, _, rfl, rfl, (show (0 : Int) < m by omega), ?_⟩
      exact k _ (t + 1) r _ (Int.emod_nonneg _ (by omega)) (Int.emod_lt_of_pos _ (by omega)) (by omega) (pen2.same n2) (s2.trans (.same n2))
end
end Pk
namespace Pk
open PySem L2
/-! ### the pen's state, and what stands apart from some addresses -/
def PenC (H : Hp) (p c : Addr) (n : Int) : Prop := ∃ ns t r, PenAt H p c ns t r ∧ t ≤ n
theorem PenC.same {H H' : Hp} {p c : Addr} {n : Int} (P : PenC H p c n) (s : Same H H') : PenC H' p c n := let ⟨ns, t, r, h, e⟩ := P; ⟨ns, t, r, h.same s, e⟩
theorem PenC.mono {H : Hp} {p c : Addr} {n m : Int} (P : PenC H p c n) (h : n ≤ m) : PenC H p c m := let ⟨ns, t, r, h1, e⟩ := P; ⟨ns, t, r, h1, by omega⟩
theorem PenC.upd {H : Hp} {p c D : Addr} {n : Int} (P : PenC H p c n) (hp : D ≠ p) (hc : D ≠ c) (o : HO) : PenC (L2.upd H D o) p c n := by
  obtain ⟨ns, t, r, h, e⟩ := P
  exact ⟨ns, t, r, ⟨by rw [upd_ne hp.symm]; exact h.at_, by rw [upd_ne hc.symm]; exact h.cells, h.len, h.t0, h.r0⟩, e⟩
theorem PenC.atp {H : Hp} {p c : Addr} {n : Int} (P : PenC H p c n) : ∃ kv, H p = some (.dK kv) := let ⟨_, _, _, h, _⟩ := P; ⟨_, h.at_⟩
theorem PenC.atc {H : Hp} {p c : Addr} {n : Int} (P : PenC H p c n) : ∃ xs, H c = some (.lst xs) := let ⟨_, _, _, h, _⟩ := P; ⟨_, h.cells⟩
theorem PenC.newp {H : Hp} {p c D : Addr} {n : Int} (P : PenC H p c n) (h : H D = none) : D ≠ p := fun z => by
  obtain ⟨kv, e⟩ := P.atp
  rw [z, e] at h
  cases h
theorem PenC.newc {H : Hp} {p c D : Addr} {n : Int} (P : PenC H p c n) (h : H D = none) : D ≠ c := fun z => by
  obtain ⟨kv, e⟩ := P.atc
  rw [z, e] at h
  cases h
theorem PenC.lstp {H : Hp} {p c D : Addr} {n : Int} {xs : List V} (P : PenC H p c n) (h : H D = some (.lst xs)) : D ≠ p := fun z => by
  obtain ⟨kv, e⟩ := P.atp
  rw [z, e] at h
  cases h
theorem PenC.tupp {H : Hp} {p c D : Addr} {n : Int} {xs : List V} (P : PenC H p c n) (h : H D = some (.tup xs)) : D ≠ p := fun z => by
  obtain ⟨kv, e⟩ := P.atp
  rw [z, e] at h
  cases h
/-- but p, what stood stands -/
theorem Sb.new {p : Addr} {H H' : Hp} {D : Addr} (s : Sb p H H') (hD : H D = none) (hp : D ≠ p) (o : HO) : Sb p H (L2.upd H' D o) := .of fun b u hb e => by
  rw [upd_ne (ne_of_none e hD)]
  exact s.to hb e
theorem Sb.free {p l : Addr} {H H' : Hp} (s : Sb p H H') (hp : l ≠ p) (h : H' l = none) : H l = none := by
  cases e : H l with
  | none => rfl
  | some o => rw [s.to hp e] at h; cases h
theorem ints10 : (10 : Int) ^ (18 : Int).toNat = 1000000000000000000 := by decide +kernel
/-- _law_draw -/
def spDrawC : Sp := fun vs H Q _ => ∃ (p c : Addr) (n m : Int), vs = [.ref p, .int m] ∧ PenC H p c n ∧ n ≤ 1000000000 ∧ 1 ≤ m ∧ m ≤ 1000000000 ∧ ∀ (v : Int) (H' : Hp), 0 ≤ v → v < m → PenC H' p c (n + 1) → Sb p H H' → Q (.int v) H'
theorem draw_imp : ∀ vs H Q E, spDrawC vs H Q E → spDraw vs H Q E := by
  rintro vs H Q E ⟨p, c, n, m, rfl, ⟨ns, t, r, h, e⟩, hn, m1, m2, k⟩
  exact ⟨p, c, ns, t, r, m, rfl, h, by omega, m1, m2, fun v t' r' H' v0 v1 ht' h' sb => k v H' v0 v1 ⟨ns, t', r', h', by omega⟩ sb⟩
/-- _law_pick: of a list, or of a text's signs -/
def spPickL : Sp := fun vs H Q _ => ∃ (p c l : Addr) (n : Int) (xs : List V), vs = [.ref p, .ref l] ∧ PenC H p c n ∧ n ≤ 1000000000 ∧ H l = some (.lst xs) ∧ 1 ≤ xs.length ∧ xs.length ≤ 1000000 ∧
  ∀ (x : V) (H' : Hp), x ∈ xs → PenC H' p c (n + 1) → Sb p H H' → Q x H'
def spPickS : Sp := fun vs H Q _ => ∃ (p c : Addr) (n : Int) (z : Str), vs = [.ref p, .str z] ∧ PenC H p c n ∧ n ≤ 1000000000 ∧ 1 ≤ z.length ∧ z.length ≤ 1000000 ∧
  ∀ (x : Nat) (H' : Hp), x ∈ z.cps.toList → PenC H' p c (n + 1) → Sb p H H' → Q (.str ⟨#[x]⟩) H'
def spPick : Sp := fun vs H Q E => spPickL vs H Q E ∨ spPickS vs H Q E
def spAny : Sp := fun vs H Q _ => ∃ (p c : Addr) (n u : Int), vs = [.ref p, .int u] ∧ PenC H p c n ∧ n ≤ 500000000 ∧ 0 ≤ u ∧ ∀ (v : Int) (H' : Hp), 0 ≤ v → v ≤ u → PenC H' p c (n + 6) → Sb p H H' → Q (.int v) H'
def spFrom : Sp := fun vs H Q _ => ∃ (p c : Addr) (n lo hi : Int), vs = [.ref p, .int lo, .int hi] ∧ PenC H p c n ∧ n ≤ 400000000 ∧ lo ≤ hi ∧ ∀ (v : Int) (H' : Hp), lo ≤ v → v ≤ hi → PenC H' p c (n + 8) → Sb p H H' → Q (.int v) H'
def spPriceL : Sp := fun vs H Q _ => ∃ (p c : Addr) (n : Int), vs = [.ref p] ∧ PenC H p c n ∧ n ≤ 400000000 ∧ ∀ (v : Int) (H' : Hp), 1 ≤ v → v ≤ 1000000 → PenC H' p c (n + 3) → Sb p H H' → Q (.int v) H'
def spShuf : Sp := fun vs H Q _ => ∃ (p c a : Addr) (n : Int) (ss : List Str), vs = [.ref p, .ref a] ∧ PenC H p c n ∧ n ≤ 400000000 ∧ H a = some (.lst (ss.map V.str)) ∧ ss.length ≤ 40 ∧
  ∀ (l : Addr) (ss' : List Str) (H' : Hp), PenC H' p c (n + 40) → Sb p H H' → H l = none → H' l = some (.lst (ss'.map V.str)) → ss'.length = ss.length → (∀ z ∈ ss', z ∈ ss) → ss'.Perm ss → Q (.ref l) H'
theorem seqIx {i : Int} {n : Nat} (h0 : 0 ≤ i) (h1 : i < n) : seqIndex? i n = some i.toNat := by
  have e : ¬ i < 0 := by omega
  unfold seqIndex?
  simp only [e, if_false]
  rw [if_pos (by simp; omega)]
theorem erase_map {α β : Type} (f : α → β) : ∀ (l : List α) (i : Nat), (l.map f).eraseIdx i = (l.eraseIdx i).map f
  | [], _ => by simp
  | _ :: _, 0 => by simp
  | _ :: l, i + 1 => by simp [erase_map f l i]
theorem perm_erase {α : Type} : ∀ {l : List α} {i : Nat} (h : i < l.length), (l[i] :: l.eraseIdx i).Perm l
  | [], _, h => absurd h (by simp)
  | x :: l, 0, _ => by simp
  | x :: l, i + 1, h => by
    have h' : i < l.length := by simpa using h
    have q := perm_erase h'
    rw [List.eraseIdx_cons_succ, List.getElem_cons_succ]
    exact (List.Perm.swap _ _ _).trans (List.Perm.cons x q)
section
variable {P : Program} {w : World} {K : PySem.W.Frag} {mg : Str → Option Value} {base : Heap}
theorem scPick : FnScope ["_law_pen_here", "_law_some"] ["_law_pen_here", "_law_some"] (defScope sPick) := ⟨rfl, rfl, rfl, by decide +kernel, rfl, by decide +kernel, by decide +kernel⟩
theorem ok_pick {f g : Addr} {fd gd : FuncData} (F : Fun K "_law_pick" "_law_pick" sPick f fd) (G : FnOk P w K mg base CX0 1 g gd ["_law_pen_here", "_law_many"] spDrawC) (bG : Binds K gd ["_law_pen_here", "_law_many"] []) (kG : PySem.W.keepIn K (.ref g) = true) (mG : mg "_law_draw" = some (.ref g)) (B : Blt mg) :
    FnOk P w K mg base CX0 2 f fd ["_law_pen_here", "_law_some"] spPick := by
  refine F.ok scPick (fun vs H Q E h => ?_) (fun cdv A outer s H vs Q E hr h => ?_)
  · rcases h with ⟨p, c, l, n, xs, rfl, _⟩ | ⟨p, c, n, z, rfl, _⟩ <;> rfl
  refine ⟨_, pss_one (ps_ret (pe_ix ix_seq (pv 1) (pe_call G hr rfl mG kG bG .nil pass0 (pa_cons (pv 0) (pa_cons (pe_callB call_len (by rfl) B.len PySem.boot_len (pa_cons (pv 1) pa_nil)) pa_nil))) (fun _ _ => rfl))), ?_⟩
  rcases h with ⟨p, c, l, n, xs, rfl, pen, hn, hl, l1, l2, k⟩ | ⟨p, c, n, z, rfl, pen, hn, l1, l2, k⟩
  · have lp : l ≠ p := pen.lstp hl
    refine ⟨_, rfl, _, rfl, _, rfl, _, xs.length, rfl, .inl ⟨xs, SqL.of hl, rfl⟩, p, c, n, _, rfl, pen, hn, by omega, by omega, fun v H' v0 v1 pen' sb => ?_⟩
    have hv : v.toNat < xs.length := by omega
    have ev : v = ((v.toNat : Nat) : Int) := by omega
    have q : atI xs ((v.toNat : Nat) : Int) = some xs[v.toNat] := atI_nat (List.getElem?_eq_getElem hv)
    rw [← ev] at q
    exact .inl ⟨l, xs, v, _, rfl, rfl, SqL.of (sb.to lp hl), q, k _ H' (List.getElem_mem hv) pen' sb⟩
  · refine ⟨_, rfl, _, rfl, _, rfl, _, z.length, rfl, ⟨by have := sizeLine_eq; omega, rfl⟩, p, c, n, _, rfl, pen, hn, by omega, by omega, fun v H' v0 v1 pen' sb => ?_⟩
    have hz : z.cps.toList.length = z.length := Array.length_toList
    have hv : v.toNat < z.cps.toList.length := by omega
    have ev : v = ((v.toNat : Nat) : Int) := by omega
    have q : atI z.cps.toList ((v.toNat : Nat) : Int) = some z.cps.toList[v.toNat] := atI_nat (List.getElem?_eq_getElem hv)
    rw [← ev] at q
    exact .inr (.inr ⟨z, v, _, rfl, rfl, by have := sizeLine_eq; omega, q, k _ H' (List.getElem_mem hv) pen' sb⟩)
theorem scAny : FnScope ["_law_pen_here", "_law_upto", "_law_number", "_law_k"] ["_law_pen_here", "_law_upto"] (defScope sAny) := ⟨rfl, rfl, rfl, by decide +kernel, rfl, by decide +kernel, by decide +kernel⟩
theorem ok_any {f g : Addr} {fd gd : FuncData} (F : Fun K "_law_any" "_law_any" sAny f fd) (G : FnOk P w K mg base CX0 1 g gd ["_law_pen_here", "_law_many"] spDrawC) (bG : Binds K gd ["_law_pen_here", "_law_many"] []) (kG : PySem.W.keepIn K (.ref g) = true) (mG : mg "_law_draw" = some (.ref g)) (B : Blt mg) :
    FnOk P w K mg base CX0 2 f fd ["_law_pen_here", "_law_upto"] spAny := by
  refine F.ok scAny (fun vs H Q E h => ?_) (fun cdv A outer s H vs Q E hr h => ?_)
  · obtain ⟨p, c, n, u, rfl, _⟩ := h
    rfl
  obtain ⟨p, c, n, u, rfl, pen, hn, u0, k⟩ := h
  refine ⟨_, pss_cons (ps_set (i := 2) scAny.nd rfl (.inl rfl) pe_int) <|
    pss_cons (ps_for PassesOwn.never rfl (pi_range1 rfl B.range (pa_cons pe_int pa_nil)) (pg_name (i := 3) scAny.nd rfl (.inl rfl))
      (pss_one (ps_set (i := 2) scAny.nd rfl (.inl rfl) (pe_op op_add (pe_op op_mul pe_int (pv 2)) (pe_call G hr rfl mG kG bG .nil pass0 (pa_cons (pv 0) (pa_cons pe_int pa_nil))))))) <|
    pss_one (ps_ret (pe_op op_mod (pv 2) (pe_op op_add (pv 1) pe_int))), ?_⟩
  refine ⟨6, rfl, by decide, by decide, for_range (n := 6) (fun i σ H2 => ∃ (z : Int) (v3 : Option V), σ = [some (.ref p), some (.int u), some (.int z), v3] ∧ PenC H2 p c (n + i) ∧ Sb p H H2) ⟨0, none, rfl, by simpa using pen, Sb.refl _ _⟩ ?_ ?_⟩
  · rintro i σ H2 hi ⟨z, v3, rfl, pen2, sb2⟩
    refine ⟨_, rfl, _, _, rfl, rfl, .inl ⟨by decide, by decide⟩, _, rfl, p, c, n + i, _, rfl, pen2, by omega, by decide, by decide, fun v H3 v0 v1 pen3 sb3 => ?_⟩
    refine ⟨_, _, rfl, rfl, _, _, rfl, ?_, sb2.trans sb3⟩
    have e : n + ((i + 1 : Nat) : Int) = n + i + 1 := by omega
    rw [e]
    exact pen3
  · rintro σ H2 ⟨z, v3, rfl, pen2, sb2⟩
    refine ⟨_, rfl, _, rfl, _, _, rfl, rfl, _, _, rfl, rfl, (show (0 : Int) < u + 1 by omega), ?_⟩
    exact k _ H2 (Int.emod_nonneg _ (by omega)) (by have := Int.emod_lt_of_pos z (show (0 : Int) < u + 1 by omega); omega) pen2 sb2
theorem scFrom : FnScope ["_law_pen_here", "_law_low", "_law_high", "_law_way", "_law_near_here"] ["_law_pen_here", "_law_low", "_law_high"] (defScope sFrom) := ⟨rfl, rfl, rfl, by decide +kernel, rfl, by decide +kernel, by decide +kernel⟩
theorem ok_from {f g g2 : Addr} {fd gd gd2 : FuncData} (F : Fun K "_law_from" "_law_from" sFrom f fd) (G : FnOk P w K mg base CX0 1 g gd ["_law_pen_here", "_law_many"] spDrawC) (bG : Binds K gd ["_law_pen_here", "_law_many"] []) (kG : PySem.W.keepIn K (.ref g) = true) (mG : mg "_law_draw" = some (.ref g))
    (G2 : FnOk P w K mg base CX0 2 g2 gd2 ["_law_pen_here", "_law_upto"] spAny) (bG2 : Binds K gd2 ["_law_pen_here", "_law_upto"] []) (kG2 : PySem.W.keepIn K (.ref g2) = true) (mG2 : mg "_law_any" = some (.ref g2)) (B : Blt mg) :
    FnOk P w K mg base CX0 3 f fd ["_law_pen_here", "_law_low", "_law_high"] spFrom := by
  refine F.ok scFrom (fun vs H Q E h => ?_) (fun cdv A outer s H vs Q E hr h => ?_)
  · obtain ⟨p, c, n, lo, hi, rfl, _⟩ := h
    rfl
  obtain ⟨p, c, n, lo, hi, rfl, pen, hn, hlh, k⟩ := h
  have hr1 : Room 1 _ := hr.mono (by decide)
  refine ⟨_, pss_cons (ps_par (i := 3) (j := 4) (by rfl) scFrom.nd rfl rfl (by decide) rfl rfl (pa_cons (pe_call G hr1 rfl mG kG bG .nil pass0 (pa_cons (pv 0) (pa_cons pe_int pa_nil))) (pa_cons (pe_call G hr1 rfl mG kG bG .nil pass0 (pa_cons (pv 0) (pa_cons pe_int pa_nil))) pa_nil)) (by rfl)) <|
    pss_cons (ps_if (pt_cmpR op_lt (pv 3) pe_int (nomark _)) (pss_one (ps_ret (pe_callB (call_min2 rfl) (by rfl) B.min (by decide +kernel) (pa_cons (pv 2) (pa_cons (pe_op op_add (pv 1) (pv 4)) pa_nil))))) pss_nil) <|
    pss_cons (ps_if (pt_cmpR op_lt (pv 3) pe_int (nomark _)) (pss_one (ps_ret (pe_callB (call_max2 rfl) (by rfl) B.max (by decide +kernel) (pa_cons (pv 1) (pa_cons (pe_op op_sub (pv 2) (pv 4)) pa_nil))))) pss_nil) <|
    pss_one (ps_ret (pe_op op_add (pv 1) (pe_call G2 hr rfl mG2 kG2 bG2 .nil pass0 (pa_cons (pv 0) (pa_cons (pe_op op_sub (pv 2) (pv 1)) pa_nil))))), ?_⟩
  refine ⟨_, rfl, p, c, n, _, rfl, pen, by omega, by decide, by decide, fun v1 H1 a1 a2 pen1 sb1 => ?_⟩
  refine ⟨_, rfl, p, c, n + 1, _, rfl, pen1, by omega, by decide, by decide, fun v2 H2 a3 a4 pen2 sb2 => ?_⟩
  have sb := sb1.trans sb2
  refine ⟨_, _, rfl, _, rfl, _, _, rfl, rfl, _, rfl, ?_⟩
  refine ite2 (fun _ => ?_) (fun _ => ?_)
  · refine ⟨_, rfl, _, rfl, _, rfl, _, _, rfl, rfl, _, _, rfl, ?_⟩
    exact k _ _ (by split <;> omega) (by split <;> omega) (pen2.mono (by omega)) sb
  refine ⟨_, rfl, _, _, rfl, rfl, _, rfl, ?_⟩
  refine ite2 (fun _ => ?_) (fun _ => ?_)
  · refine ⟨_, rfl, _, rfl, _, rfl, _, _, rfl, rfl, _, _, rfl, ?_⟩
    exact k _ _ (by split <;> omega) (by split <;> omega) (pen2.mono (by omega)) sb
  refine ⟨_, rfl, _, rfl, _, rfl, _, rfl, _, _, rfl, rfl, p, c, n + 1 + 1, _, rfl, pen2, by omega, by omega, fun v3 H3 a5 a6 pen3 sb3 => ?_⟩
  exact ⟨_, _, rfl, rfl, k _ _ (by omega) (by omega) (pen3.mono (by omega)) (sb.trans sb3)⟩
theorem scPriceL : FnScope ["_law_pen_here"] ["_law_pen_here"] (defScope sPriceL) := ⟨rfl, rfl, rfl, by decide +kernel, rfl, by decide +kernel, by decide +kernel⟩
theorem ok_priceL {f g g2 : Addr} {fd gd gd2 : FuncData} (F : Fun K "_law_price" "_law_price" sPriceL f fd) (G : FnOk P w K mg base CX0 1 g gd ["_law_pen_here", "_law_many"] spDrawC) (bG : Binds K gd ["_law_pen_here", "_law_many"] []) (kG : PySem.W.keepIn K (.ref g) = true) (mG : mg "_law_draw" = some (.ref g))
    (G2 : FnOk P w K mg base CX0 2 g2 gd2 ["_law_pen_here", "_law_some"] spPick) (bG2 : Binds K gd2 ["_law_pen_here", "_law_some"] []) (kG2 : PySem.W.keepIn K (.ref g2) = true) (mG2 : mg "_law_pick" = some (.ref g2)) :
    FnOk P w K mg base CX0 3 f fd ["_law_pen_here"] spPriceL := by
  refine F.ok scPriceL (fun vs H Q E h => ?_) (fun cdv A outer s H vs Q E hr h => ?_)
  · obtain ⟨p, c, n, rfl, _⟩ := h
    rfl
  obtain ⟨p, c, n, rfl, pen, hn, k⟩ := h
  have hr1 : Room 1 _ := hr.mono (by decide)
  refine ⟨_, pss_one (ps_ret (pe_call G2 hr rfl mG2 kG2 bG2 .nil pass0 (pa_cons (pv 0) (pa_cons (pe_lst (pa_cons pe_int (pa_cons pe_int (pa_cons (pe_op op_add pe_int (pe_call G hr1 rfl mG kG bG .nil pass0 (pa_cons (pv 0) (pa_cons pe_int pa_nil))))
    (pa_cons (pe_op op_add pe_int (pe_call G hr1 rfl mG kG bG .nil pass0 (pa_cons (pv 0) (pa_cons (pd_pow pe_int pe_int) pa_nil)))) (pa_cons (pd_pow pe_int pe_int) pa_nil)))))) pa_nil)))), ?_⟩
  refine ⟨_, rfl, _, rfl, p, c, n, _, rfl, pen, by omega, by decide, by decide, fun v1 H1 a1 a2 pen1 sb1 => ?_⟩
  refine ⟨_, _, rfl, rfl, _, rfl, p, c, n + 1, _, rfl, pen1, by omega, by rw [e6]; decide, by rw [e6]; decide, fun v2 H2 a3 a4 pen2 sb2 => ?_⟩
  rw [e6] at a4
  refine ⟨_, _, rfl, rfl, by show 5 ≤ sizeLine; decide, fun l hl => ?_⟩
  refine .inl ⟨p, c, l, n + 1 + 1, _, rfl, pen2.same (sameNew hl _), by omega, upd_same, by simp, by simp, fun x H' hx pen' sb' => ?_⟩
  have sb := (sb1.trans sb2).trans ((Sb.same (sameNew hl _)).trans sb')
  rw [e6] at hx
  have kk : ∀ v : Int, 1 ≤ v → v ≤ 1000000 → Q (.int v) H' := fun v q1 q2 => k v H' q1 q2 (pen'.mono (by omega)) sb
  simp only [List.mem_cons, List.not_mem_nil, or_false] at hx
  rcases hx with rfl | rfl | rfl | rfl | rfl
  · exact kk 1 (by decide) (by decide)
  · exact kk 1 (by decide) (by decide)
  · exact kk _ (by omega) (by omega)
  · exact kk _ (by omega) (by omega)
  · exact kk _ (by decide) (by decide)
theorem scShuf : FnScope ["_law_pen_here", "_law_some", "_law_left", "_law_lot"] ["_law_pen_here", "_law_some"] (defScope sShuf) := ⟨rfl, rfl, rfl, by decide +kernel, rfl, by decide +kernel, by decide +kernel⟩
theorem ok_shuf {f g : Addr} {fd gd : FuncData} (F : Fun K "_law_shuffled" "_law_shuffled" sShuf f fd) (G : FnOk P w K mg base CX0 1 g gd ["_law_pen_here", "_law_many"] spDrawC) (bG : Binds K gd ["_law_pen_here", "_law_many"] []) (kG : PySem.W.keepIn K (.ref g) = true) (mG : mg "_law_draw" = some (.ref g)) (B : Blt mg) :
    FnOk P w K mg base CX0 2 f fd ["_law_pen_here", "_law_some"] spShuf := by
  refine F.ok scShuf (fun vs H Q E h => ?_) (fun cdv A outer s H vs Q E hr h => ?_)
  · obtain ⟨p, c, a, n, ss, rfl, _⟩ := h
    rfl
  obtain ⟨p, c, a, n, ss, rfl, pen, hn, ha, hl, k⟩ := h
  have hu0 := hr.units0
  refine ⟨_, pss_cons (ps_par (i := 2) (j := 3) (by rfl) scShuf.nd rfl rfl (by decide) rfl rfl (pa_cons (pe_callTy call_list_of (by rfl) B.list (by decide +kernel) (pa_cons (pv 1) pa_nil)) (pa_cons (pe_lst pa_nil) pa_nil)) (by rfl)) <|
    pss_cons (ps_while PassesOwn.never (pt_cmpR (op_neNil hu0) (pv 2) (pe_lst pa_nil) (nomark _))
      (pss_one (ps_expr (pe_bm PySem.F.plainAttrs_list PySem.F.slot_list_append PySem.F.type_list_append mt_append (pv 3) (pa_cons (pe_bm PySem.F.plainAttrs_list PySem.F.slot_list_pop PySem.F.type_list_pop mt_popAt (pv 2) (pa_cons (pe_call G hr rfl mG kG bG .nil pass0 (pa_cons (pv 0) (pa_cons (pe_callB call_len_seq (by rfl) B.len PySem.boot_len (pa_cons (pv 2) pa_nil)) pa_nil))) pa_nil)) pa_nil))))) <|
    pss_one (ps_ret (pv 3)), ?_⟩
  refine ⟨_, rfl, a, _, rfl, .inl (SqL.of ha), fun l hl' => ?_⟩
  refine ⟨by show 0 ≤ sizeLine; decide, fun o ho => ?_⟩
  refine ⟨_, _, rfl, ?_⟩
  have lp := pen.newp hl'
  have lc := pen.newc hl'
  have pen1 := pen.same (sameNew hl' (.lst (ss.map V.str)))
  have op := pen1.newp ho
  have oc := pen1.newc ho
  have lo : l ≠ o := ne_of_none upd_same ho
  have ho0 : H o = none := by rw [upd_ne lo.symm] at ho; exact ho
  have sb0 : Sb p H (L2.upd (L2.upd H l (.lst (ss.map V.str))) o (.lst [])) := ((Sb.refl p H).new hl' lp _).new ho0 op _
  refine ⟨fun m σ2 H2 => ∃ ls os : List Str, σ2 = [some (.ref p), some (.ref a), some (.ref l), some (.ref o)] ∧ H2 l = some (.lst (ls.map V.str)) ∧ H2 o = some (.lst (os.map V.str)) ∧ ls.length = m ∧ os.length + m = ss.length ∧ (∀ z ∈ ls, z ∈ ss) ∧ (∀ z ∈ os, z ∈ ss) ∧ (os ++ ls).Perm ss ∧ PenC H2 p c (n + os.length) ∧ Sb p H H2,
    ⟨ss.length, ss, [], rfl, by rw [upd_ne lo]; exact upd_same, upd_same, rfl, by simp, fun _ h => h, fun _ h => absurd h (by simp), by simp, by simpa using pen1.same (sameNew ho _), sb0⟩, ?_⟩
  rintro m σ2 H2 ⟨ls, os, rfl, hls, hos, em, eo, al1, al2, pm, pen2, sb2⟩
  refine ⟨_, rfl, by show 0 ≤ sizeLine; decide, fun e he => ?_⟩
  have se := sameNew he (.lst [])
  refine ⟨l, e, _, rfl, rfl, SqL.of (se _ _ hls), SqL.of upd_same, _, rfl, ?_⟩
  have sb3 := sb2.trans (Sb.same se)
  have pen3 := pen2.same se
  generalize L2.upd H2 e (.lst []) = H3 at se sb3 pen3 ⊢
  cases ls with
  | nil =>
    have e0 : os.length = ss.length := by simp at em; omega
    exact iteF ⟨_, rfl, k o os H3 (pen3.mono (by omega)) sb3 ho0 (se _ _ hos) e0 al2 (by simpa using pm)⟩
  | cons z ls =>
    refine iteT ⟨fun σ' H' => ∃ ls os : List Str, σ' = [some (.ref p), some (.ref a), some (.ref l), some (.ref o)] ∧ H' l = some (.lst (ls.map V.str)) ∧ H' o = some (.lst (os.map V.str)) ∧ ls.length = m - 1 ∧ os.length + (m - 1) = ss.length ∧ (∀ z ∈ ls, z ∈ ss) ∧ (∀ z ∈ os, z ∈ ss) ∧ (os ++ ls).Perm ss ∧ PenC H' p c (n + os.length) ∧ Sb p H H', fun σ' H' q => ⟨m - 1, by simp at em; omega, q⟩, ?_⟩
    generalize hzl : z :: ls = zl at em hls al1 pm
    have hm : 1 ≤ m := by rw [← em, ← hzl]; simp
    have hlz : ((zl.map V.str).length : Nat) = m := by rw [List.length_map]; exact em
    refine ⟨_, rfl, .inl ⟨rfl, _, SqL.of (se _ _ hos)⟩, _, rfl, .inl ⟨rfl, _, SqL.of (se _ _ hls)⟩, _, rfl, _, rfl, l, _, rfl, .inl (SqL.of (se _ _ hls)), p, c, n + os.length, _, rfl, pen3, by omega, by omega, by omega, fun v H4 v0 v1 pen4 sb4 => ?_⟩
    have hv : v.toNat < zl.length := by omega
    have ev : v = ((v.toNat : Nat) : Int) := by omega
    refine ⟨l, zl.map V.str, v, v.toNat, .str zl[v.toNat], rfl, rfl, sb4.to lp (se _ _ hls), by omega, by omega, ?_, ?_, ?_⟩
    · rw [hlz]
      exact seqIx v0 (by omega)
    · rw [List.getElem?_map, List.getElem?_eq_getElem hv]
      rfl
    · refine ⟨o, _, _, rfl, rfl, by rw [upd_ne lo.symm]; exact sb4.to op (se _ _ hos), by rw [List.length_map]; exact small1000 (by omega), ?_⟩
      have mem : zl[v.toNat] ∈ ss := al1 _ (List.getElem_mem hv)
      refine ⟨zl.eraseIdx v.toNat, os ++ [zl[v.toNat]], rfl, ?_, ?_, ?_, ?_, ?_, ?_, ?_, ?_, ?_⟩
      · rw [upd_ne lo, upd_same, erase_map]
      · rw [upd_same, List.map_append]
        rfl
      · rw [List.length_eraseIdx_of_lt hv, em]
      · rw [List.length_append]
        show os.length + 1 + (m - 1) = ss.length
        omega
      · exact fun y hy => al1 y (List.mem_of_mem_eraseIdx hy)
      · intro y hy
        rcases List.mem_append.mp hy with hy | hy
        · exact al2 y hy
        · rw [List.mem_singleton.mp hy]
          exact mem
      · refine List.Perm.trans ?_ pm
        rw [List.append_assoc]
        exact (perm_erase hv).append_left os
      · have e1 : n + ((os ++ [zl[v.toNat]]).length : Int) = n + os.length + 1 := by simp; omega
        rw [e1]
        exact (pen4.upd lp lc _).upd op oc _
      · exact ((sb3.trans sb4).new hl' lp _).new ho0 op _
end
end Pk
/-! Names drawn: unlike ones. -/
namespace Pk
open PySem
theorem nodup_at {ss : List Str} {pre : List Nat} {c : Nat → Nat} (h : ∀ j z, ss[j]? = some z → ∃ tl, z.cps.toList = pre ++ c j :: tl) (inj : ∀ i j, i < ss.length → j < ss.length → c i = c j → i = j) : ss.Nodup := by
  unfold List.Nodup
  rw [List.pairwise_iff_getElem]
  intro i j hi hj hij e
  obtain ⟨t1, e1⟩ := h i _ (List.getElem?_eq_getElem hi)
  obtain ⟨t2, e2⟩ := h j _ (List.getElem?_eq_getElem hj)
  rw [e, e2] at e1
  have e3 := List.append_cancel_left e1
  have := inj j i hj hi (List.cons.inj e3).1
  omega
theorem nodup_set {ss : List Str} {pre : List Nat} {c : Nat → Nat} {k : Nat} {y : Str} (h : ∀ j z, ss[j]? = some z → ∃ tl, z.cps.toList = pre ++ c j :: tl) (inj : ∀ i j, i < ss.length → j < ss.length → c i = c j → i = j) (hy : y.cps.toList = pre) : (ss.set k y).Nodup := by
  have out : ∀ z ∈ ss, z ≠ y := fun z hz e => by
    obtain ⟨j, hj, ej⟩ := List.getElem_of_mem hz
    obtain ⟨tl, e1⟩ := h j z (by rw [List.getElem?_eq_getElem hj, ej])
    rw [e, hy] at e1
    have := congrArg List.length e1
    simp at this
  have nd := nodup_at h inj
  unfold List.Nodup at nd ⊢
  rw [List.pairwise_iff_getElem] at nd ⊢
  intro i j hi hj hij e
  rw [List.getElem_set, List.getElem_set] at e
  rw [List.length_set] at hi hj
  by_cases c1 : k = i
  · rw [if_pos c1, if_neg (by omega)] at e
    exact out _ (List.getElem_mem hj) e.symm
  · rw [if_neg c1] at e
    by_cases c2 : k = j
    · rw [if_pos c2] at e
      exact out _ (List.getElem_mem hi) e
    · rw [if_neg c2] at e
      exact nd i j hi hj hij e
def byL : List Int := [1, 3, 5, 7, 9, 11, 15, 17, 19, 21, 23, 25]
theorem inj26 {fi b : Int} (hb : b ∈ byL) {i j : Nat} (hi : i < 12) (hj : j < 12) (h : 97 + ((fi + b * (i : Int)) % 26).toNat = 97 + ((fi + b * (j : Int)) % 26).toNat) : i = j := by
  simp only [byL, List.mem_cons, List.not_mem_nil, or_false] at hb
  have p1 := Int.emod_nonneg (fi + b * (i : Int)) (show (26 : Int) ≠ 0 by decide)
  have p2 := Int.emod_nonneg (fi + b * (j : Int)) (show (26 : Int) ≠ 0 by decide)
  have h' : (fi + b * (i : Int)) % 26 = (fi + b * (j : Int)) % 26 := by omega
  rcases hb with rfl | rfl | rfl | rfl | rfl | rfl | rfl | rfl | rfl | rfl | rfl | rfl <;> omega
/-! Texts in their order -/
theorem lt_of_le_ne {a b : Str} (h : ¬ b.cps.toList < a.cps.toList) (hn : a ≠ b) : leS b a = false := by
  unfold leS
  have : a.cps.toList < b.cps.toList := by
    rcases Decidable.em (a.cps.toList < b.cps.toList) with q | q
    · exact q
    · exfalso
      have e := List.le_antisymm (show a.cps.toList ≤ b.cps.toList from h) (show b.cps.toList ≤ a.cps.toList from q)
      apply hn
      cases a
      cases b
      congr 1
      exact Array.ext' e
  simp [this]
end Pk
namespace Pk
open PySem L2
/-- a name by form: few signs, each a letter -/
def nmOk (z : Str) : Prop := z.length ≤ 30 ∧ ∀ c ∈ z.cps.toList, smallC c = true
theorem len_cps (z : Str) : z.cps.toList.length = z.length := Array.length_toList
theorem cps_app (a b : Str) : (a ++ b).cps.toList = a.cps.toList ++ b.cps.toList := by
  show (a.cps ++ b.cps).toList = _
  rw [Array.toList_append]
theorem join_cps {e : Str} (he : e.cps.toList = []) : ∀ ys : List Str, (Str.join e ys).cps.toList = (ys.map fun y => y.cps.toList).flatten
  | [] => rfl
  | [x] => by simp [Str.join]
  | x :: y :: r => by
    show (x ++ e ++ Str.join e (y :: r)).cps.toList = _
    rw [cps_app, cps_app, he, join_cps he (y :: r)]
    simp
theorem join_signs (cs : List Nat) : (Txt.join ("" : Str) (cs.map fun c => (⟨#[c]⟩ : Str))).cps.toList = cs := by
  unfold Txt.join
  rw [StrLaws.glued_eq_join, join_cps rfl, List.map_map]
  induction cs with
  | nil => rfl
  | cons c cs ih => simpa using ih
theorem cutS_cps (z : Str) (lo hi : Option Int) : (cutS z lo hi).cps.toList = (z.cps.toList.drop (HT.sIx z.length 0 lo)).take (HT.sIx z.length z.length hi - HT.sIx z.length 0 lo) := by
  unfold cutS
  simp
theorem cutS_mem {z : Str} {lo hi : Option Int} {c : Nat} (h : c ∈ (cutS z lo hi).cps.toList) : c ∈ z.cps.toList := by
  rw [cutS_cps] at h
  exact List.mem_of_mem_drop (List.mem_of_mem_take h)
theorem cutS_len (z : Str) (lo hi : Option Int) : (cutS z lo hi).length ≤ z.length := by
  rw [← len_cps, cutS_cps, ← len_cps z]
  simp only [List.length_take, List.length_drop]
  omega
theorem app_len (a b : Str) : (a ++ b).length = a.length + b.length := by
  rw [← len_cps, cps_app, List.length_append, len_cps, len_cps]
theorem cut_from {xs : List V} {i : Nat} (h : i ≤ xs.length) : cutV xs (some (i : Int)) none = xs.drop i := by
  unfold cutV
  rw [HT.sIx_none, HT.sIx_nat, Nat.min_eq_left h, List.take_of_length_le (by simp)]
theorem cut_to {xs : List V} {i : Nat} (h : i ≤ xs.length) : cutV xs none (some (i : Int)) = xs.take i := by
  unfold cutV
  rw [HT.sIx_none, HT.sIx_nat, Nat.min_eq_left h, List.drop_zero, Nat.sub_zero]
theorem sum_signs : ∀ cs : List Nat, ((cs.map fun x => (⟨#[x]⟩ : Str)).map (·.length)).sum = cs.length
  | [] => rfl
  | c :: cs => by
    simp only [List.map_cons, List.sum_cons, List.length_cons, sum_signs cs]
    show 1 + cs.length = _
    omega
def wordsL : List Str := ["dial", "off", "most", "least", "one", "both", "up", "down", "house", "turn", "meet", "run"]
theorem words_ok : ∀ z ∈ wordsL, nmOk z := by
  have h : ∀ z ∈ wordsL, z.length ≤ 30 ∧ z.cps.toList.all smallC = true := by decide +kernel
  exact fun z hz => ⟨(h z hz).1, fun c hc => List.all_eq_true.mp (h z hz).2 c hc⟩
theorem words_len : ∀ z ∈ wordsL, 1 ≤ z.length ∧ z.length ≤ 8 := by decide +kernel
theorem words_nd : ∀ v < 12, ∀ m < 13, ((wordsL.drop v ++ wordsL).take m).Nodup := by decide +kernel
theorem cutS_to (z : Str) (i : Nat) : (cutS z none (some (i : Int))).cps.toList = z.cps.toList.take (min i z.length) := by
  rw [cutS_cps, HT.sIx_none, HT.sIx_nat, List.drop_zero, Nat.sub_zero]
theorem cutS_from_len (z : Str) (i : Nat) : (cutS z (some (i : Int)) none).length ≤ z.length - i := by
  rw [← len_cps, cutS_cps, HT.sIx_none, HT.sIx_nat]
  simp only [List.length_take, List.length_drop, len_cps]
  omega
theorem letters_ok : ∀ c ∈ letters.cps.toList, smallC c = true := fun c hc => by rw [← in_letters, decide_eq_true hc]
theorem letters_len : letters.length = 26 := by decide +kernel
def spNames : Sp := fun vs H Q _ => ∃ (p c : Addr) (n : Int) (m : Nat), vs = [.ref p, .int (m : Nat)] ∧ PenC H p c n ∧ n ≤ 400000000 ∧ 1 ≤ m ∧ m ≤ 12 ∧
  ∀ (l : Addr) (ss : List Str) (H' : Hp), PenC H' p c (n + 30) → Sb p H H' → H l = none → H' l = some (.lst (ss.map V.str)) → ss.length = m → (∀ z ∈ ss, nmOk z) → (∀ z ∈ ss, 1 ≤ z.length ∧ z.length ≤ 8) → ss.Nodup → Q (.ref l) H'
abbrev nNames : List Str := ["_law_pen_here", "_law_many", "_law_words", "_law_turn", "_law_letters", "_law_base", "_law_k", "_law_at", "_law_first", "_law_cut", "_law_by", "_law_lot", "_law_tail"]
section
variable {P : Program} {w : World} {K : PySem.W.Frag} {mg : Str → Option Value} {base : Heap}
theorem scNames : FnScope nNames ["_law_pen_here", "_law_many"] (defScope sNames) := ⟨rfl, rfl, rfl, by decide +kernel, rfl, by decide +kernel, by decide +kernel⟩
set_option maxHeartbeats 1000000 in
theorem ok_names {f g g2 : Addr} {fd gd gd2 : FuncData} (F : Fun K "_law_names" "_law_names" sNames f fd) (G : FnOk P w K mg base CX0 1 g gd ["_law_pen_here", "_law_many"] spDrawC) (bG : Binds K gd ["_law_pen_here", "_law_many"] []) (kG : PySem.W.keepIn K (.ref g) = true) (mG : mg "_law_draw" = some (.ref g))
    (G2 : FnOk P w K mg base CX0 2 g2 gd2 ["_law_pen_here", "_law_some"] spPick) (bG2 : Binds K gd2 ["_law_pen_here", "_law_some"] []) (kG2 : PySem.W.keepIn K (.ref g2) = true) (mG2 : mg "_law_pick" = some (.ref g2)) (B : Blt mg) :
    FnOk P w K mg base CX0 3 f fd ["_law_pen_here", "_law_many"] spNames := by
  refine F.ok scNames (fun vs H Q E h => ?_) (fun cdv A outer s H vs Q E hr h => ?_)
  · obtain ⟨p, c, n, m, rfl, _⟩ := h
    rfl
  obtain ⟨p, c, n, m, rfl, pen, hn, m1, m2, k⟩ := h
  have hr1 : Room 1 _ := hr.mono (by decide)
  refine ⟨_, pss_cons (ps_set (i := 2) scNames.nd rfl (.inl rfl) (pe_lst (pa_cons pe_str <| pa_cons pe_str <| pa_cons pe_str <| pa_cons pe_str <| pa_cons pe_str <| pa_cons pe_str <| pa_cons pe_str <| pa_cons pe_str <| pa_cons pe_str <| pa_cons pe_str <| pa_cons pe_str <| pa_cons pe_str pa_nil))) <|
    pss_cons (ps_if (pt_cmpR op_eq (pe_call G hr1 rfl mG kG bG .nil pass0 (pa_cons (pv 0) (pa_cons pe_int pa_nil))) pe_int (nomark _))
      (pss_cons (ps_set (i := 3) scNames.nd rfl (.inl rfl) (pe_call G hr1 rfl mG kG bG .nil pass0 (pa_cons (pv 0) (pa_cons pe_int pa_nil))))
      (pss_one (ps_ret (pe_slice sl_list (pe_op op_cat (pe_slice sl_list (pv 2) (po_some (pv 3)) po_none) (pv 2)) po_none (po_some (pv 1)))))) pss_nil) <|
    pss_cons (ps_set (i := 4) scNames.nd rfl (.inr rfl) pe_str) <|
    pss_cons (ps_set (i := 5) scNames.nd rfl (.inl rfl) (pe_join pe_str (pe_lc (own := [("_law_k", 6)]) (g := gName 6) (by rfl) scNames.nd (pi_range1 (by rfl) B.range (pa_cons (pe_op op_add pe_int (pe_call G hr1 rfl mG kG bG .nil pass0 (pa_cons (pv 0) (pa_cons pe_int pa_nil)))) pa_nil)) (blkOk_by (N := nNames) (sc := defScope sNames) (by decide +kernel)) (fun _ _ _ _ _ => pg_name (i := 6) scNames.nd rfl (Or.inl rfl)) (fun _ _ _ _ _ => pts_nil) (fun _ _ _ _ _ => pe_call G2 hr rfl mG2 kG2 bG2 .nil pass0 (pa_cons (pv 0) (pa_cons (pv 4) pa_nil)))))) <|
    pss_cons (ps_par3 (i := 7) (j := 8) (l := 9) (by rfl) scNames.nd rfl rfl rfl (by decide) (by decide) (by decide) rfl rfl rfl (pa_cons (pe_call G hr1 rfl mG kG bG .nil pass0 (pa_cons (pv 0) (pa_cons (pe_callB call_len_str (by rfl) B.len PySem.boot_len (pa_cons (pv 5) pa_nil)) pa_nil))) (pa_cons (pe_call G hr1 rfl mG kG bG .nil pass0 (pa_cons (pv 0) (pa_cons pe_int pa_nil))) (pa_cons (pe_call G hr1 rfl mG kG bG .nil pass0 (pa_cons (pv 0) (pa_cons pe_int pa_nil))) pa_nil))) (by rfl)) <|
    pss_cons (ps_par (i := 10) (j := 11) (by rfl) scNames.nd rfl rfl (by decide) rfl rfl (pa_cons (pe_call G2 hr rfl mG2 kG2 bG2 .nil pass0 (pa_cons (pv 0) (pa_cons (pe_lst (pa_cons pe_int <| pa_cons pe_int <| pa_cons pe_int <| pa_cons pe_int <| pa_cons pe_int <| pa_cons pe_int <| pa_cons pe_int <| pa_cons pe_int <| pa_cons pe_int <| pa_cons pe_int <| pa_cons pe_int <| pa_cons pe_int pa_nil)) pa_nil))) (pa_cons (pe_lst pa_nil) pa_nil)) (by rfl)) <|
    pss_cons (ps_for PassesOwn.never rfl (pi_range1 rfl B.range (pa_cons (pv 1) pa_nil)) (pg_name (i := 6) scNames.nd rfl (.inl rfl))
      (pss_cons (ps_set (i := 12) scNames.nd rfl (.inl rfl) (pe_slice sl_str (pe_slice sl_str (pv 5) (po_some (pe_op op_add (pv 7) pe_int)) po_none) po_none (po_some (pe_ix ix_list (pe_lst (pa_cons pe_int (pa_cons (pe_op op_mod (pv 6) pe_int) pa_nil))) (pv 9) (fun _ _ => rfl)))))
      (pss_one (ps_expr (pe_bm PySem.F.plainAttrs_list PySem.F.slot_list_append PySem.F.type_list_append mt_append (pv 11) (pa_cons (pe_op op_add_str (pe_op op_add_str (pe_slice sl_str (pv 5) po_none (po_some (pv 7))) (pe_ix ix_str (pv 4) (pe_op op_mod (pe_op op_add (pv 8) (pe_op op_mul (pv 10) (pv 6))) pe_int) (fun _ _ => rfl))) (pv 12)) pa_nil)))))) <|
    pss_cons (ps_if (PW.pt (pw_and (pt_cmpR op_gt (pv 7) pe_int (nomark _)) (pw_and (pt_cmpR op_gt (pv 1) pe_int (nomark _)) (pw_and1 (pt_cmpR op_eq (pe_call G hr1 rfl mG kG bG .nil pass0 (pa_cons (pv 0) (pa_cons pe_int pa_nil))) pe_int (nomark _))))))
      (pss_one (ps_asg (pe_slice sl_str (pv 5) po_none (po_some (pv 7))) (pg_sub (pv 11) (pe_call G hr1 rfl mG kG bG .nil pass0 (pa_cons (pv 0) (pa_cons (pv 1) pa_nil))) set_list))) pss_nil) <|
    pss_one (ps_ret (pv 11)), ?_⟩
  refine ⟨by show 12 ≤ sizeLine; decide, fun a1 n1 => ?_⟩
  have s1 := sameNew n1 (.lst (wordsL.map V.str))
  have pen1 := pen.same s1
  refine ⟨_, rfl, p, c, n, _, rfl, pen1, by omega, by decide, by decide, fun v2 H2 a2 a3 pen2 sb2' => ?_⟩
  have a1p := pen.newp n1
  have a1c := pen.newc n1
  have sb2 : Sb p H H2 := (Sb.same s1).trans sb2'
  have h1 : H2 a1 = some (.lst (wordsL.map V.str)) := sb2'.to a1p upd_same
  clear sb2' pen1
  refine ⟨rfl, _, rfl, ?_⟩
  refine ite2 (fun _ => ?_) (fun _ => ?_)
  · refine ⟨_, rfl, p, c, n + 1, _, rfl, pen2, by omega, by decide, by decide, fun v3 H3 b0 b1 pen3 sb3' => ?_⟩
    have h1' := sb3'.to a1p h1
    have sb3 := sb2.trans sb3'
    have ev : v3 = ((v3.toNat : Nat) : Int) := by omega
    have l12 : wordsL.length = 12 := rfl
    have lw : (wordsL.map V.str).length = 12 := rfl
    refine ⟨_, rfl, _, rfl, v3, rfl, a1, _, rfl, SqL.of h1', fun q nq => ?_⟩
    rw [ev, cut_from (by omega)]
    have sq := sameNew nq (.lst ((wordsL.map V.str).drop v3.toNat))
    refine ⟨_, rfl, q, a1, _, _, rfl, rfl, upd_same, sq _ _ h1', small (by simp only [List.length_drop, lw]; omega), fun r nr => ?_⟩
    have sr := sameNew nr (.lst ((wordsL.map V.str).drop v3.toNat ++ wordsL.map V.str))
    refine ⟨_, rfl, _, rfl, r, _, rfl, SqL.of upd_same, fun l nl => ?_⟩
    rw [cut_to (by simp only [List.length_append, List.length_drop, lw]; omega)]
    have sl := sameNew nl (.lst (((wordsL.map V.str).drop v3.toNat ++ wordsL.map V.str).take m))
    have sA := sq.trans (sr.trans sl)
    have e2 : ((wordsL.map V.str).drop v3.toNat ++ wordsL.map V.str).take m = ((wordsL.drop v3.toNat ++ wordsL).take m).map V.str := by simp only [List.map_take, List.map_append, List.map_drop]
    have nl3 : H3 l = none := (sq.trans sr).free nl
    have hq3 : H l = none := sb3.free (pen3.newp nl3) nl3
    refine k l ((wordsL.drop v3.toNat ++ wordsL).take m) _ ((pen3.same sA).mono (by omega)) (sb3.trans (Sb.same sA)) hq3 (by rw [upd_same, e2]) (by simp only [List.length_take, List.length_append, List.length_drop, l12]; omega) (fun z hz => ?_) (fun z hz => ?_) (words_nd _ (by omega) m (by omega))
    · rcases List.mem_append.mp (List.mem_of_mem_take hz) with hz | hz
      · exact words_ok z (List.mem_of_mem_drop hz)
      · exact words_ok z hz
    · rcases List.mem_append.mp (List.mem_of_mem_take hz) with hz | hz
      · exact words_len z (List.mem_of_mem_drop hz)
      · exact words_len z hz
  refine ⟨⟨_, rfl⟩, _, rfl, p, c, n + 1, _, rfl, pen2, by omega, by decide, by decide, fun v3 H3 b0 b1 pen3 sb3' => ?_⟩
  have sb3 := sb2.trans sb3'
  refine ⟨_, _, rfl, rfl, _, rfl, by omega, by omega, fun D hD => lc_range (lo := 0) (n := (1 + v3).toNat) (fun i H4 => ∃ cs : List Nat, H4 D = some (.lst ((cs.map fun x => (⟨#[x]⟩ : Str)).map V.str)) ∧ cs.length = i ∧ (∀ x ∈ cs, smallC x = true) ∧ PenC H4 p c (n + 2 + i) ∧ Sb p H3 H4)
    ⟨[], upd_same, rfl, fun _ h => absurd h (by simp), (pen3.same (sameNew hD _)).mono (by omega), Sb.same (sameNew hD _)⟩ ?_ ?_⟩
  · rintro i H4 hi ⟨cs, e1, e2, e3, pen4, sb4⟩
    have Dp := pen3.newp hD
    have Dc := pen3.newc hD
    refine ⟨rfl, _, rfl, _, rfl, .inr ⟨p, c, n + 2 + i, letters, rfl, pen4, by omega, by rw [letters_len]; decide, by rw [letters_len]; decide, fun x H5 hx pen5 sb5 => ?_⟩⟩
    refine ⟨_, sb5.to Dp e1, small1000 (by simp only [List.length_map]; omega), cs ++ [x], ?_, by simp [e2], fun y hy => ?_, ?_, ?_⟩
    · rw [upd_same, List.map_append, List.map_append]
      rfl
    · rcases List.mem_append.mp hy with hy | hy
      · exact e3 y hy
      · rw [List.mem_singleton.mp hy]
        exact letters_ok x hx
    · exact (pen5.upd Dp Dc _).mono (by omega)
    · exact (sb4.trans sb5).new hD Dp _
  rintro H4 ⟨cs, e1, e2, e3, pen4, sb4'⟩
  have sb4 := sb3.trans sb4'
  have hcl : cs.length ≤ 8 ∧ 1 ≤ cs.length := by omega
  refine ⟨_, D, cs.map fun x => (⟨#[x]⟩ : Str), rfl, rfl, .inl (SqL.of e1), ?_, ?_⟩
  · rw [sum_signs, List.length_map]
    show cs.length + cs.length * 0 ≤ _
    omega
  have hzb := join_signs cs
  generalize Txt.join (Str.ofString "") (cs.map fun x => (⟨#[x]⟩ : Str)) = zb at hzb ⊢
  have hzl : zb.length = cs.length := by rw [← len_cps, hzb]
  have hzc : ∀ x ∈ zb.cps.toList, smallC x = true := by rw [hzb]; exact e3
  have hz9 : zb.length ≤ sizeLine := small (by omega)
  clear e1 hzb
  refine ⟨_, rfl, _, rfl, zb, rfl, hz9, p, c, _, _, rfl, pen4, by omega, by omega, by omega, fun at_ H5 b2 b3 pen5 sb5 => ?_⟩
  refine ⟨_, rfl, p, c, _, _, rfl, pen5, by omega, by decide, by decide, fun fi H6 b4 b5 pen6 sb6 => ?_⟩
  refine ⟨_, rfl, p, c, _, _, rfl, pen6, by omega, by decide, by decide, fun cu H7 b6 b7 pen7 sb7 => ?_⟩
  have sB := sb4.trans (sb5.trans (sb6.trans sb7))
  refine ⟨_, _, _, rfl, _, rfl, by show 12 ≤ sizeLine; decide, fun e he => ?_⟩
  refine .inl ⟨p, c, e, _, _, rfl, pen7.same (sameNew he _), by omega, upd_same, by simp, by simp, fun x H8 hx pen8 sb8 => ?_⟩
  have sC := sB.trans ((Sb.same (sameNew he _)).trans sb8)
  obtain ⟨by_, rfl, b8, b9, b10⟩ : ∃ b : Int, x = .int b ∧ 1 ≤ b ∧ b ≤ 25 ∧ b ∈ byL := by
    simp only [List.mem_cons, List.not_mem_nil, or_false] at hx
    rcases hx with rfl | rfl | rfl | rfl | rfl | rfl | rfl | rfl | rfl | rfl | rfl | rfl <;> exact ⟨_, rfl, by decide, by decide, by decide⟩
  refine ⟨by show 0 ≤ sizeLine; decide, fun o ho => ?_⟩
  have op := pen8.newp ho
  have oc := pen8.newc ho
  have hoH : H o = none := sC.free op ho
  have pen9 := pen8.same (sameNew ho (.lst []))
  generalize hN : n + 2 + (((1 + v3).toNat : Nat) : Int) + 1 + 1 + 1 + 1 = N at pen8 pen9
  refine ⟨_, _, rfl, _, rfl, _, rfl, by omega, by omega, ?_⟩
  rw [Int.toNat_natCast]
  refine for_range (n := m) (fun i σ H9 => ∃ (v6 v12 : Option V) (ss : List Str), σ = [some (.ref p), some (.int (m : Nat)), some (.ref a1), none, some (.str letters), some (.str zb), v6, some (.int at_), some (.int fi), some (.int cu), some (.int by_), some (.ref o), v12] ∧ H9 o = some (.lst (ss.map V.str)) ∧ ss.length = i ∧ (∀ z ∈ ss, nmOk z) ∧ (∀ j z, ss[j]? = some z → ∃ tl, z.cps.toList = zb.cps.toList.take at_.toNat ++ (97 + ((fi + by_ * ((j : Nat) : Int)) % 26).toNat) :: tl) ∧ (∀ z ∈ ss, 1 ≤ z.length ∧ z.length ≤ 8) ∧ PenC H9 p c N ∧ Sb p H H9)
    ⟨none, none, [], rfl, upd_same, rfl, fun _ h => absurd h (by simp), fun _ _ h => absurd h (by simp), fun _ h => absurd h (by simp), pen9, sC.trans (Sb.same (sameNew ho _))⟩ ?_ ?_
  · rintro i σ H9 hi ⟨v6, v12, ss, rfl, e1, e2, e3, eA, eB, pen10, sb10⟩
    rw [Int.zero_add]
    refine ⟨_, rfl, _, rfl, _, _, rfl, rfl, _, rfl, zb, rfl, hz9, _, rfl, _, _, rfl, rfl, (by show (0 : Int) < 3; decide), by show 2 ≤ sizeLine; decide, fun e he => ?_⟩
    have se := sameNew he (.lst [.int 8, .int (((i : Nat) : Int) % 3)])
    obtain ⟨w', hw⟩ : ∃ w : Int, atI [V.int 8, V.int (((i : Nat) : Int) % 3)] cu = some (.int w) := by
      rcases (show cu = 0 ∨ cu = 1 by omega) with rfl | rfl
      · exact ⟨_, rfl⟩
      · exact ⟨_, rfl⟩
    refine ⟨_, rfl, e, _, _, _, rfl, rfl, SqL.of upd_same, hw, w', rfl, _, rfl, Nat.le_trans (cutS_len _ _ _) hz9, ?_⟩
    generalize htl : cutS (cutS zb (some (at_ + 1)) none) none (some w') = tl
    have htl1 : tl.length ≤ 8 := by rw [← htl]; exact Nat.le_trans (cutS_len _ _ _) (Nat.le_trans (cutS_len _ _ _) (by omega))
    have htl2 : ∀ x ∈ tl.cps.toList, smallC x = true := by rw [← htl]; exact fun x hx => hzc x (cutS_mem (cutS_mem hx))
    have at9 : at_ = ((at_.toNat : Nat) : Int) := by omega
    have htl3 : tl.length + at_.toNat + 1 ≤ 8 := by
      have q1 : tl.length ≤ (cutS zb (some (at_ + 1)) none).length := by rw [← htl]; exact cutS_len _ _ _
      have q2 : (cutS zb (some (at_ + 1)) none).length ≤ zb.length - (at_.toNat + 1) := by
        have q := cutS_from_len zb (at_.toNat + 1)
        rw [show (((at_.toNat + 1 : Nat)) : Int) = at_ + 1 by omega] at q
        exact q
      omega
    obtain ⟨ch, hch, hch9⟩ : ∃ ch, atI letters.cps.toList ((fi + by_ * ((i : Nat) : Int)) % 26) = some ch ∧ ch = 97 + ((fi + by_ * ((i : Nat) : Int)) % 26).toNat := by
      have q0 := Int.emod_nonneg (fi + by_ * ((i : Nat) : Int)) (show (26 : Int) ≠ 0 by decide)
      have q1 := Int.emod_lt_of_pos (fi + by_ * ((i : Nat) : Int)) (show (0 : Int) < 26 by decide)
      generalize (fi + by_ * ((i : Nat) : Int)) % 26 = ix at q0 q1
      have hv : ix.toNat < letters.cps.toList.length := by rw [len_cps, letters_len]; omega
      have q : atI letters.cps.toList ((ix.toNat : Nat) : Int) = some letters.cps.toList[ix.toNat] := atI_nat (List.getElem?_eq_getElem hv)
      rw [show ((ix.toNat : Nat) : Int) = ix by omega] at q
      refine ⟨_, q, ?_⟩
      have q9 : ∀ (l : List Nat) (h : l = List.range' 97 26) (k : Nat) (hk : k < l.length), l[k] = 97 + k := fun l h k hk => by
        subst h
        simp
      exact q9 _ lettersL _ hv
    have hch2 : smallC ch = true := by
      have q : ch ∈ letters.cps.toList := by
        unfold atI at hch
        obtain ⟨j, _, hj⟩ := Option.bind_eq_some_iff.mp hch
        exact List.mem_of_getElem? hj
      exact letters_ok ch q
    refine ⟨_, rfl, .inl ⟨rfl, _, SqL.of (se _ _ e1)⟩, _, rfl, _, rfl, at_, rfl, zb, rfl, hz9, _, rfl, _, rfl, _, rfl, _, rfl, _, _, rfl, rfl, .inl ⟨by omega, by omega⟩, _, _, rfl, rfl, _, _, rfl, rfl, (by show (0 : Int) < 26; decide), letters, _, ch, rfl, rfl, by rw [letters_len]; decide, hch, ?_⟩
    have hc1 := cutS_len zb none (some at_)
    have hs9 := sizeLine_eq
    have h11 : (⟨#[ch]⟩ : Str).length = 1 := rfl
    refine ⟨_, _, rfl, rfl, by rw [h11]; omega, _, rfl, _, _, rfl, rfl, by rw [app_len, h11]; omega, ?_⟩
    refine ⟨o, _, _, rfl, rfl, se _ _ e1, by rw [List.length_map]; exact small1000 (by omega), ?_⟩
    refine ⟨_, _, ss ++ [cutS zb none (some at_) ++ ⟨#[ch]⟩ ++ tl], rfl, by rw [upd_same, List.map_append]; rfl, by simp [e2], fun z hz => ?_, fun j z hj => ?_, fun z hz => ?_, (pen10.same se).upd op oc _, (sb10.trans (Sb.same se)).new hoH op _⟩
    · rcases List.mem_append.mp hz with hz | hz
      · exact e3 z hz
      · rw [List.mem_singleton.mp hz]
        refine ⟨by rw [app_len, app_len, h11]; omega, fun x hx => ?_⟩
        rw [cps_app, cps_app] at hx
        rcases List.mem_append.mp hx with hx | hx
        · rcases List.mem_append.mp hx with hx | hx
          · exact hzc x (cutS_mem hx)
          · have : x = ch := by simpa using hx
            rw [this]
            exact hch2
        · exact htl2 x hx
    · by_cases hjl : j < ss.length
      · rw [List.getElem?_append_left hjl] at hj
        exact eA j z hj
      · have hjl' : j < (ss ++ [cutS zb none (some at_) ++ ⟨#[ch]⟩ ++ tl]).length := (List.getElem?_eq_some_iff.mp hj).1
        have ej : j = i := by simp at hjl'; omega
        subst ej
        rw [List.getElem?_append_right (by omega), e2, Nat.sub_self] at hj
        have ez : z = cutS zb none (some at_) ++ ⟨#[ch]⟩ ++ tl := by simpa using hj.symm
        refine ⟨tl.cps.toList, ?_⟩
        rw [ez, cps_app, cps_app, ← hch9]
        have q := cutS_to zb at_.toNat
        rw [← at9] at q
        rw [q, Nat.min_eq_left (by omega)]
        simp
    · rcases List.mem_append.mp hz with hz | hz
      · exact eB z hz
      · rw [List.mem_singleton.mp hz, app_len, app_len, h11]
        have q : (cutS zb none (some at_)).length ≤ at_.toNat := by
          have q := cutS_to zb at_.toNat
          rw [← at9] at q
          rw [← len_cps, q, List.length_take]
          omega
        omega
  rintro σ H9 ⟨v6, v12, ss, rfl, e1, e2, e3, eA, eB, pen10, sb10⟩
  have injc : ∀ i j, i < ss.length → j < ss.length → 97 + ((fi + by_ * ((i : Nat) : Int)) % 26).toNat = 97 + ((fi + by_ * ((j : Nat) : Int)) % 26).toNat → i = j := fun i j hi hj h => inj26 b10 (by omega) (by omega) h
  have ndA : ss.Nodup := nodup_at (c := fun j => 97 + ((fi + by_ * ((j : Nat) : Int)) % 26).toNat) eA injc
  have fin : Q (.ref o) H9 := k o ss H9 (pen10.mono (by omega)) sb10 hoH e1 e2 e3 eB ndA
  refine ⟨_, rfl, _, _, rfl, rfl, _, rfl, ?_⟩
  refine ite2 (fun c9 => ?_) (fun _ => ?_)
  rotate_left
  · exact ⟨_, rfl, fin⟩
  have c9 : 0 < at_ := by simpa using c9
  refine ⟨_, rfl, _, _, rfl, rfl, _, rfl, ?_⟩
  refine ite2 (fun _ => ?_) (fun _ => ?_)
  rotate_left
  · exact ⟨_, rfl, fin⟩
  refine ⟨_, rfl, p, c, N, _, rfl, pen10, by omega, by decide, by decide, fun v11 H11 c0 c1 pen11 sb11 => ?_⟩
  have e1' := sb11.to op e1
  have sb12 := sb10.trans sb11
  refine ⟨rfl, _, rfl, ?_⟩
  refine ite2 (fun _ => ?_) (fun _ => ?_)
  rotate_left
  · exact ⟨_, rfl, k o ss H11 (pen11.mono (by omega)) sb12 hoH e1' e2 e3 eB ndA⟩
  refine ⟨_, rfl, _, rfl, at_, rfl, zb, rfl, hz9, _, rfl, _, rfl, _, rfl, p, c, N + 1, _, rfl, pen11, by omega, by omega, by omega, fun v12 H12 c2 c3 pen12 sb13 => ?_⟩
  have e1'' := sb13.to op e1'
  refine ⟨o, _, _, v12.toNat, rfl, rfl, e1'', ?_, _, rfl, ?_⟩
  · unfold ixN
    rw [if_pos c2, if_pos (by rw [List.length_map]; omega)]
  have qat : (cutS zb none (some at_)).cps.toList = zb.cps.toList.take at_.toNat := by
    have q := cutS_to zb at_.toNat
    rw [show ((at_.toNat : Nat) : Int) = at_ by omega] at q
    rw [q, Nat.min_eq_left (by omega)]
  refine k o (ss.set v12.toNat (cutS zb none (some at_))) _ ((pen12.upd op oc _).mono (by omega)) ((sb12.trans sb13).new hoH op _) hoH (by rw [upd_same, List.map_set]) (by rw [List.length_set]; exact e2) (fun z hz => ?_) (fun z hz => ?_) (nodup_set (c := fun j => 97 + ((fi + by_ * ((j : Nat) : Int)) % 26).toNat) eA injc ?_)
  · rcases List.mem_or_eq_of_mem_set hz with hz | hz
    · exact e3 z hz
    · rw [hz]
      exact ⟨Nat.le_trans (cutS_len _ _ _) (by omega), fun x hx => hzc x (cutS_mem hx)⟩
  · rcases List.mem_or_eq_of_mem_set hz with hz | hz
    · exact eB z hz
    · rw [hz, ← len_cps, qat, List.length_take, len_cps]
      omega
  · exact qat
end
end Pk
namespace Pk
open PySem L2
def spDialL : Sp := fun vs H Q _ => ∃ (p c : Addr) (n wd : Int) (nm : Str), vs = [.ref p, .str nm, .int wd] ∧ 0 ≤ wd ∧ wd ≤ 100 ∧ PenC H p c n ∧ n ≤ 300000000 ∧
  ∀ (t : Addr) (lo hi up dn : Int) (way : Str) (H' : Hp), PenC H' p c (n + 40) → Sb p H H' → H t = none → H' t = some (.tup [.str nm, .int lo, .int hi, .str way, .int up, .int dn]) → -farS ≤ lo → lo ≤ hi → hi ≤ farS → way ∈ ways3 → 1 ≤ up → up ≤ 1000000 → 1 ≤ dn → dn ≤ 1000000 → (0 < wd → hi - lo ≤ wd) → Q (.ref t) H'
def spSayL : Sp := fun vs H Q _ => ∃ (p c a b : Addr) (n : Int) (ss : List Str) (is : List Int), vs = [.ref p, .ref a, .ref b] ∧ PenC H p c n ∧ n ≤ 300000000 ∧ H a = some (.lst (ss.map V.str)) ∧ 1 ≤ ss.length ∧ ss.length ≤ 40 ∧ H b = some (.lst (is.map V.int)) ∧ 1 ≤ is.length ∧ is.length ≤ 40 ∧ (∀ i ∈ is, -farS ≤ i ∧ i ≤ farS) ∧
  ∀ (t : Addr) (z so : Str) (i : Int) (H' : Hp), PenC H' p c (n + 20) → Sb p H H' → H t = none → H' t = some (.tup [.str z, .str so, .int i]) → z ∈ ss → so ∈ sorts2 → -greatS ≤ i → i ≤ greatS → Q (.ref t) H'
def kvOf (e : Str × Int) : Key × V := (Sum.inr e.1, .int e.2)
theorem val_kv {z : Str} : ∀ {es : List (Str × Int)}, z ∈ es.map (·.1) → ∃ i, (z, i) ∈ es ∧ valV (es.map kvOf) (Sum.inr z) = some (.int i)
  | [], h => absurd h (by simp)
  | (y, i) :: es, h => by
    by_cases e : y = z
    · subst e
      refine ⟨i, List.mem_cons_self, ?_⟩
      unfold valV
      rw [List.map_cons, List.find?_cons_of_pos (by simp [kvOf])]
      rfl
    · have h' : z ∈ es.map (·.1) := by
        rcases List.mem_cons.mp h with h | h
        · exact absurd h.symm e
        · exact h
      obtain ⟨j, h1, h2⟩ := val_kv h'
      refine ⟨j, List.mem_cons_of_mem _ h1, ?_⟩
      unfold valV at h2 ⊢
      rw [List.map_cons, List.find?_cons_of_neg (by simpa [kvOf] using e)]
      exact h2
theorem dg_kv {H : Hp} {d : Addr} {es : List (Str × Int)} {z : Str} {i : Int} (h : H d = some (.dK (es.map kvOf))) (hv : valV (es.map kvOf) (Sum.inr z) = some (.int i)) : DGet H d (.str z) (some (.int i)) := .inl ⟨_, .inr z, .inl h, rfl, hv.symm⟩
/-- the number of a name -/
def lookE (es : List (Str × Int)) (z : Str) : Int := match valV (es.map kvOf) (Sum.inr z) with
  | some (.int i) => i
  | _ => 0
theorem look_dg {H : Hp} {d : Addr} {es : List (Str × Int)} {z : Str} (h : H d = some (.dK (es.map kvOf))) (hz : z ∈ es.map (·.1)) : DGet H d (.str z) (some (.int (lookE es z))) := by
  obtain ⟨i, _, e⟩ := val_kv hz
  have q : lookE es z = i := by
    unfold lookE
    rw [e]
  rw [q]
  exact dg_kv h e
def holdsS (f : Str → Int) : PyData → Bool
  | .tuple [.str z, .str so, .int i] => if decide (so = "least") = true then decide (i ≤ f z) else decide (f z ≤ i)
  | _ => false
def ruleH (f : Str → Int) : PyData → Bool
  | .tuple [_, p, q] => holdsS f p || holdsS f q
  | .tuple [.str w, .str a, .str b, .int c] => if decide (w = "off") = true then decide (f a ≤ f b + c) else if decide (w = "most") = true then decide (f a + f b ≤ c) else decide (c ≤ f a + f b)
  | _ => false
def spTSay : Sp := fun vs H Q _ => ∃ (p c d : Addr) (n sl : Int) (es : List (Str × Int)), vs = [.ref p, .ref d, .int sl] ∧ PenC H p c n ∧ n ≤ 300000000 ∧ H d = some (.dK (es.map kvOf)) ∧ 1 ≤ es.length ∧ es.length ≤ 40 ∧ (∀ e ∈ es, -farS ≤ e.2 ∧ e.2 ≤ farS) ∧ 0 ≤ sl ∧ sl ≤ 5 ∧
  ∀ (t : Addr) (z so : Str) (i : Int) (H' : Hp), PenC H' p c (n + 20) → Sb p H H' → H t = none → H' t = some (.tup [.str z, .str so, .int i]) → z ∈ es.map (·.1) → so ∈ sorts2 → -greatS ≤ i → i ≤ greatS → holdsS (lookE es) (.tuple [.str z, .str so, .int i]) = true → Q (.ref t) H'
theorem sorts_mem {x : V} (h : x ∈ [V.str "least", V.str "most"]) : ∃ so ∈ sorts2, x = .str so := by
  simp only [List.mem_cons, List.not_mem_nil, or_false] at h
  rcases h with rfl | rfl
  · exact ⟨_, by decide +kernel, rfl⟩
  · exact ⟨_, by decide +kernel, rfl⟩
theorem farG : farS = 1000000000000000000 := rfl
theorem greatG : greatS = 100000000000000000000 := rfl
theorem kv_keys (es : List (Str × Int)) : (es.map kvOf).map (fun kv => kV kv.1) = (es.map (·.1)).map V.str := by
  simp only [List.map_map]
  rfl
section
variable {P : Program} {w : World} {K : PySem.W.Frag} {mg : Str → Option Value} {base : Heap}
theorem scDialL : FnScope ["_law_pen_here", "_law_name", "_law_wide", "_law_way", "_law_up", "_law_down", "_law_low"] ["_law_pen_here", "_law_name", "_law_wide"] (defScope sDial) := ⟨rfl, rfl, rfl, by decide +kernel, rfl, by decide +kernel, by decide +kernel⟩
theorem ok_dialL {f g g2 g3 g4 : Addr} {fd gd gd2 gd3 gd4 : FuncData} (F : Fun K "_law_dial" "_law_dial" sDial f fd) (G : FnOk P w K mg base CX0 1 g gd ["_law_pen_here", "_law_many"] spDrawC) (bG : Binds K gd ["_law_pen_here", "_law_many"] []) (kG : PySem.W.keepIn K (.ref g) = true) (mG : mg "_law_draw" = some (.ref g))
    (G2 : FnOk P w K mg base CX0 2 g2 gd2 ["_law_pen_here", "_law_some"] spPick) (bG2 : Binds K gd2 ["_law_pen_here", "_law_some"] []) (kG2 : PySem.W.keepIn K (.ref g2) = true) (mG2 : mg "_law_pick" = some (.ref g2))
    (G3 : FnOk P w K mg base CX0 3 g3 gd3 ["_law_pen_here", "_law_low", "_law_high"] spFrom) (bG3 : Binds K gd3 ["_law_pen_here", "_law_low", "_law_high"] []) (kG3 : PySem.W.keepIn K (.ref g3) = true) (mG3 : mg "_law_from" = some (.ref g3))
    (G4 : FnOk P w K mg base CX0 3 g4 gd4 ["_law_pen_here"] spPriceL) (bG4 : Binds K gd4 ["_law_pen_here"] []) (kG4 : PySem.W.keepIn K (.ref g4) = true) (mG4 : mg "_law_price" = some (.ref g4)) :
    FnOk P w K mg base CX0 4 f fd ["_law_pen_here", "_law_name", "_law_wide"] spDialL := by
  refine F.ok scDialL (fun vs H Q E h => ?_) (fun cdv A outer s H vs Q E hr h => ?_)
  · obtain ⟨p, c, n, wd, nm, rfl, _⟩ := h
    rfl
  obtain ⟨p, c, n, wd, nm, rfl, wd1, wd2, pen, hn, k⟩ := h
  have hr1 : Room 1 _ := hr.mono (by decide)
  have hr2 : Room 2 _ := hr.mono (by decide)
  refine ⟨_, pss_cons (ps_par3 (i := 3) (j := 4) (l := 5) (by rfl) scDialL.nd rfl rfl rfl (by decide) (by decide) (by decide) rfl rfl rfl (pa_cons (pe_call G2 hr2 rfl mG2 kG2 bG2 .nil pass0 (pa_cons (pv 0) (pa_cons (pe_lst (pa_cons pe_str (pa_cons pe_str (pa_cons pe_str (pa_cons pe_str pa_nil))))) pa_nil))) (pa_cons (pe_call G4 hr rfl mG4 kG4 bG4 .nil pass0 (pa_cons (pv 0) pa_nil)) (pa_cons (pe_call G4 hr rfl mG4 kG4 bG4 .nil pass0 (pa_cons (pv 0) pa_nil)) pa_nil))) (by rfl)) <|
    pss_cons (ps_if (pt_cmpR op_eq (pv 2) pe_int (nomark _))
      (pss_cons (ps_set (i := 6) scDialL.nd rfl (.inl rfl) (pe_call G2 hr2 rfl mG2 kG2 bG2 .nil pass0 (pa_cons (pv 0) (pa_cons (pe_lst (pa_cons (pe_call G3 hr rfl mG3 kG3 bG3 .nil pass0 (pa_cons (pv 0) (pa_cons (pd_neg (pd_pow pe_int pe_int)) (pa_cons (pd_pow pe_int pe_int) pa_nil)))) (pa_cons (pd_neg (pd_pow pe_int pe_int)) (pa_cons pe_int (pa_cons (pe_un un_neg (pe_call G hr1 rfl mG kG bG .nil pass0 (pa_cons (pv 0) (pa_cons pe_int pa_nil)))) pa_nil))))) pa_nil))))
      (pss_one (ps_ret (pe_tup (pa_cons (pv 1) (pa_cons (pv 6) (pa_cons (pe_call G3 hr rfl mG3 kG3 bG3 .nil pass0 (pa_cons (pv 0) (pa_cons (pv 6) (pa_cons (pd_pow pe_int pe_int) pa_nil)))) (pa_cons (pv 3) (pa_cons (pv 4) (pa_cons (pv 5) pa_nil)))))))))) pss_nil) <|
    pss_cons (ps_set (i := 6) scDialL.nd rfl (.inl rfl) (pe_op op_sub (pe_call G hr1 rfl mG kG bG .nil pass0 (pa_cons (pv 0) (pa_cons pe_int pa_nil))) pe_int)) <|
    pss_one (ps_ret (pe_tup (pa_cons (pv 1) (pa_cons (pv 6) (pa_cons (pe_op op_add (pv 6) (pe_call G hr1 rfl mG kG bG .nil pass0 (pa_cons (pv 0) (pa_cons (pe_op op_add (pv 2) pe_int) pa_nil)))) (pa_cons (pv 3) (pa_cons (pv 4) (pa_cons (pv 5) pa_nil)))))))), ?_⟩
  refine ⟨_, rfl, by show 4 ≤ sizeLine; decide, fun e1 he1 => ?_⟩
  refine .inl ⟨p, c, e1, n, _, rfl, pen.same (sameNew he1 _), by omega, upd_same, by simp, by simp, fun x H1 hx pen1 sb1 => ?_⟩
  obtain ⟨way, hway, rfl⟩ : ∃ way ∈ ways3, x = .str way := by
    simp only [List.mem_cons, List.not_mem_nil, or_false] at hx
    rcases hx with rfl | rfl | rfl | rfl <;> exact ⟨_, by decide +kernel, rfl⟩
  have sA := (Sb.same (sameNew he1 (.lst [V.str "both", V.str "both", V.str "up", V.str "down"]))).trans sb1
  refine ⟨_, rfl, p, c, _, rfl, pen1, by omega, fun up H2 u1 u2 pen2 sb2 => ?_⟩
  refine ⟨_, rfl, p, c, _, rfl, pen2, by omega, fun dn H3 u3 u4 pen3 sb3 => ?_⟩
  have sB := sA.trans (sb2.trans sb3)
  have fg := farG
  refine ⟨_, _, _, rfl, _, rfl, rfl, _, rfl, ite2 (fun c0 => ?_) (fun _ => ?_)⟩
  rotate_left
  · refine ⟨_, rfl, p, c, _, _, rfl, pen3, by omega, by decide, by decide, fun d1 H4 u5 u6 pen4 sb4 => ?_⟩
    refine ⟨_, _, rfl, rfl, _, rfl, _, rfl, _, rfl, _, rfl, _, rfl, _, _, rfl, rfl, p, c, _, _, rfl, pen4, by omega, by omega, by omega, fun d2 H5 u7 u8 pen5 sb5 => ?_⟩
    refine ⟨_, _, rfl, rfl, _, rfl, _, rfl, _, rfl, by show 6 ≤ sizeLine; decide, fun t ht => ?_⟩
    have sD := sB.trans (sb4.trans sb5)
    have tp := pen5.newp ht
    exact k t (d1 - 4) (d1 - 4 + d2) up dn way _ ((pen5.same (sameNew ht _)).mono (by omega)) (sD.trans (Sb.same (sameNew ht _))) (sD.free tp ht) upd_same (by omega) (by omega) (by omega) hway u1 u2 u3 u4 (fun _ => by omega)
  refine ⟨_, rfl, _, rfl, p, c, _, _, _, rfl, pen3, by omega, by rw [e18]; decide, fun f1 H4 u5 u6 pen4 sb4 => ?_⟩
  refine ⟨_, rfl, p, c, _, _, rfl, pen4, by omega, by decide, by decide, fun d1 H5 u7 u8 pen5 sb5 => ?_⟩
  refine ⟨_, rfl, by show 4 ≤ sizeLine; decide, fun e2 he2 => ?_⟩
  refine .inl ⟨p, c, e2, _, _, rfl, pen5.same (sameNew he2 _), by omega, upd_same, by simp, by simp, fun x H6 hx pen6 sb6 => ?_⟩
  rw [e18] at hx u5 u6
  have sC := sB.trans (sb4.trans (sb5.trans ((Sb.same (sameNew he2 _)).trans sb6)))
  obtain ⟨lo, rfl, l1, l2⟩ : ∃ lo : Int, x = .int lo ∧ -farS ≤ lo ∧ lo ≤ farS := by
    simp only [List.mem_cons, List.not_mem_nil, or_false] at hx
    rcases hx with rfl | rfl | rfl | rfl
    · exact ⟨_, rfl, by omega, by omega⟩
    · exact ⟨_, rfl, by omega, by omega⟩
    · exact ⟨_, rfl, by omega, by omega⟩
    · exact ⟨_, rfl, by omega, by omega⟩
  refine ⟨_, rfl, _, rfl, _, rfl, _, rfl, p, c, _, lo, _, rfl, pen6, by omega, by rw [e18]; exact l2, fun hi H7 u9 u10 pen7 sb7 => ?_⟩
  rw [e18] at u10
  refine ⟨_, rfl, _, rfl, _, rfl, by show 6 ≤ sizeLine; decide, fun t ht => ?_⟩
  have sD := sC.trans sb7
  have tp := pen7.newp ht
  exact k t lo hi up dn way _ ((pen7.same (sameNew ht _)).mono (by omega)) (sD.trans (Sb.same (sameNew ht _))) (sD.free tp ht) upd_same l1 u9 u10 hway u1 u2 u3 u4 (fun h => absurd (V.int.inj (of_decide_eq_true c0)) (by omega))
theorem scSayL : FnScope ["_law_pen_here", "_law_names_here", "_law_numbers", "_law_number"] ["_law_pen_here", "_law_names_here", "_law_numbers"] (defScope sSay) := ⟨rfl, rfl, rfl, by decide +kernel, rfl, by decide +kernel, by decide +kernel⟩
theorem ok_sayL {f g g2 g3 : Addr} {fd gd gd2 gd3 : FuncData} (F : Fun K "_law_saying" "_law_saying" sSay f fd) (G : FnOk P w K mg base CX0 1 g gd ["_law_pen_here", "_law_many"] spDrawC) (bG : Binds K gd ["_law_pen_here", "_law_many"] []) (kG : PySem.W.keepIn K (.ref g) = true) (mG : mg "_law_draw" = some (.ref g))
    (G2 : FnOk P w K mg base CX0 2 g2 gd2 ["_law_pen_here", "_law_some"] spPick) (bG2 : Binds K gd2 ["_law_pen_here", "_law_some"] []) (kG2 : PySem.W.keepIn K (.ref g2) = true) (mG2 : mg "_law_pick" = some (.ref g2))
    (G3 : FnOk P w K mg base CX0 3 g3 gd3 ["_law_pen_here", "_law_low", "_law_high"] spFrom) (bG3 : Binds K gd3 ["_law_pen_here", "_law_low", "_law_high"] []) (kG3 : PySem.W.keepIn K (.ref g3) = true) (mG3 : mg "_law_from" = some (.ref g3)) :
    FnOk P w K mg base CX0 4 f fd ["_law_pen_here", "_law_names_here", "_law_numbers"] spSayL := by
  refine F.ok scSayL (fun vs H Q E h => ?_) (fun cdv A outer s H vs Q E hr h => ?_)
  · obtain ⟨p, c, a, b, n, ss, is, rfl, _⟩ := h
    rfl
  obtain ⟨p, c, a, b, n, ss, is, rfl, pen, hn, ha, s1, s2, hb, i1, i2, hi, k⟩ := h
  have hr1 : Room 1 _ := hr.mono (by decide)
  have hr2 : Room 2 _ := hr.mono (by decide)
  refine ⟨_, pss_cons (ps_set (i := 3) scSayL.nd rfl (.inl rfl) (pe_op op_sub (pe_op op_add (pe_call G2 hr2 rfl mG2 kG2 bG2 .nil pass0 (pa_cons (pv 0) (pa_cons (pv 2) pa_nil))) (pe_call G hr1 rfl mG kG bG .nil pass0 (pa_cons (pv 0) (pa_cons pe_int pa_nil)))) pe_int)) <|
    pss_cons (ps_if (pt_cmpR op_eq (pe_call G hr1 rfl mG kG bG .nil pass0 (pa_cons (pv 0) (pa_cons pe_int pa_nil))) pe_int (nomark _)) (pss_one (ps_set (i := 3) scSayL.nd rfl (.inl rfl) (pe_call G3 hr rfl mG3 kG3 bG3 .nil pass0 (pa_cons (pv 0) (pa_cons (pd_neg (pd_pow pe_int pe_int)) (pa_cons (pd_pow pe_int pe_int) pa_nil)))))) pss_nil) <|
    pss_one (ps_ret (pe_tup (pa_cons (pe_call G2 hr2 rfl mG2 kG2 bG2 .nil pass0 (pa_cons (pv 0) (pa_cons (pv 1) pa_nil))) (pa_cons (pe_call G2 hr2 rfl mG2 kG2 bG2 .nil pass0 (pa_cons (pv 0) (pa_cons (pe_lst (pa_cons pe_str (pa_cons pe_str pa_nil))) pa_nil))) (pa_cons (pv 3) pa_nil))))), ?_⟩
  have ap := pen.lstp ha
  have bp := pen.lstp hb
  have fg := farG
  have gg := greatG
  refine ⟨_, rfl, _, rfl, .inl ⟨p, c, b, n, _, rfl, pen, by omega, hb, by simpa using i1, by rw [List.length_map]; omega, fun x H1 hx pen1 sb1 => ?_⟩⟩
  obtain ⟨i, hi0, rfl⟩ := List.mem_map.mp hx
  have hib := hi i hi0
  refine ⟨_, rfl, p, c, _, _, rfl, pen1, by omega, by decide, by decide, fun v1 H2 u1 u2 pen2 sb2 => ?_⟩
  refine ⟨_, _, rfl, rfl, _, _, rfl, rfl, _, rfl, p, c, _, _, rfl, pen2, by omega, by decide, by decide, fun v2 H3 u3 u4 pen3 sb3 => ?_⟩
  have sA := sb1.trans (sb2.trans sb3)
  refine ⟨rfl, _, rfl, ?_⟩
  have rest : ∀ (z : Int) (H4 : Hp), -greatS ≤ z → z ≤ greatS → PenC H4 p c (n + 11) → Sb p H H4 → (tRet (tTup (tCons (tCall spPick [] E0 (tCons (tVar 0) (tCons (tVar 1) tNil))) (tCons (tCall spPick [] E0 (tCons (tVar 0) (tCons (tLst (tCons (tC (V.str (Str.ofString "least"))) (tCons (tC (V.str (Str.ofString "most"))) tNil))) tNil))) (tCons (tVar 3) tNil))))) { nx := fun x H' => Q V.non H', rt := Q } [some (.ref p), some (.ref a), some (.ref b), some (.int z)] H4 := fun z H4 z1 z2 pen4 sb4 => by
    have ha4 := sb4.to ap ha
    refine ⟨_, rfl, _, rfl, .inl ⟨p, c, a, _, _, rfl, pen4, by omega, ha4, by simpa using s1, by rw [List.length_map]; omega, fun x H5 hx pen5 sb5 => ?_⟩⟩
    obtain ⟨nm, hnm, rfl⟩ := List.mem_map.mp hx
    refine ⟨_, rfl, by show 2 ≤ sizeLine; decide, fun e he => .inl ⟨p, c, e, _, _, rfl, pen5.same (sameNew he _), by omega, upd_same, by simp, by simp, fun x H6 hx pen6 sb6 => ?_⟩⟩
    obtain ⟨so, hso, rfl⟩ := sorts_mem hx
    refine ⟨_, rfl, by show 3 ≤ sizeLine; decide, fun t ht => ?_⟩
    have sD := sb4.trans (sb5.trans ((Sb.same (sameNew he _)).trans sb6))
    exact k t nm so z _ ((pen6.same (sameNew ht _)).mono (by omega)) (sD.trans (Sb.same (sameNew ht _))) (sD.free (pen6.newp ht) ht) upd_same hnm hso z1 z2
  refine ite2 (fun _ => ?_) (fun _ => ?_)
  · refine ⟨_, rfl, p, c, _, _, _, rfl, pen3, by omega, by rw [e20]; decide, fun z H4 u5 u6 pen4 sb4 => ?_⟩
    rw [e20] at u5 u6
    exact rest z H4 (by omega) (by omega) (pen4.mono (by omega)) (sA.trans sb4)
  · exact rest _ H3 (by omega) (by omega) (pen3.mono (by omega)) sA
theorem scTSay : FnScope ["_law_pen_here", "_law_at", "_law_slack", "_law_name", "_law_sort", "_law_by"] ["_law_pen_here", "_law_at", "_law_slack"] (defScope sTSay) := ⟨rfl, rfl, rfl, by decide +kernel, rfl, by decide +kernel, by decide +kernel⟩
theorem ok_tsay {f g g2 : Addr} {fd gd gd2 : FuncData} (F : Fun K "_law_true_saying" "_law_true_saying" sTSay f fd) (G : FnOk P w K mg base CX0 1 g gd ["_law_pen_here", "_law_many"] spDrawC) (bG : Binds K gd ["_law_pen_here", "_law_many"] []) (kG : PySem.W.keepIn K (.ref g) = true) (mG : mg "_law_draw" = some (.ref g))
    (G2 : FnOk P w K mg base CX0 2 g2 gd2 ["_law_pen_here", "_law_some"] spPick) (bG2 : Binds K gd2 ["_law_pen_here", "_law_some"] []) (kG2 : PySem.W.keepIn K (.ref g2) = true) (mG2 : mg "_law_pick" = some (.ref g2)) (B : Blt mg) :
    FnOk P w K mg base CX0 3 f fd ["_law_pen_here", "_law_at", "_law_slack"] spTSay := by
  refine F.ok scTSay (fun vs H Q E h => ?_) (fun cdv A outer s H vs Q E hr h => ?_)
  · obtain ⟨p, c, d, n, sl, es, rfl, _⟩ := h
    rfl
  obtain ⟨p, c, d, n, sl, es, rfl, pen, hn, hd, l1, l2, hi, sl1, sl2, k⟩ := h
  have hu := hu_of hr
  have hr1 : Room 1 _ := hr.mono (by decide)
  refine ⟨_, pss_cons (ps_par3 (i := 3) (j := 4) (l := 5) (by rfl) scTSay.nd rfl rfl rfl (by decide) (by decide) (by decide) rfl rfl rfl (pa_cons (pe_call G2 hr rfl mG2 kG2 bG2 .nil pass0 (pa_cons (pv 0) (pa_cons (pe_callB cr_sortedS (by rfl) B.sorted (by decide +kernel) (pa_cons (pe_callTy (call_listD rfl) (by rfl) B.list (by decide +kernel) (pa_cons (pv 1) pa_nil)) pa_nil)) pa_nil)))
      (pa_cons (pe_call G2 hr rfl mG2 kG2 bG2 .nil pass0 (pa_cons (pv 0) (pa_cons (pe_lst (pa_cons pe_str (pa_cons pe_str pa_nil))) pa_nil))) (pa_cons (pe_call G hr1 rfl mG kG bG .nil pass0 (pa_cons (pv 0) (pa_cons (pe_op op_add (pv 2) pe_int) pa_nil))) pa_nil))) (by rfl)) <|
    pss_one (ps_ret (pe_tup (pa_cons (pv 3) (pa_cons (pv 4) (pa_cons (pe_ifExp (pt_cmpR op_eq (pv 4) pe_str (nomark _)) (pe_op op_sub (pe_dget hu (pv 1) (pv 3) (fun _ _ => rfl)) (pv 5)) (pe_op op_add (pe_dget hu (pv 1) (pv 3) (fun _ _ => rfl)) (pv 5))) pa_nil))))), ?_⟩
  refine ⟨_, rfl, _, rfl, d, _, rfl, .inl hd, fun q nq => ?_⟩
  rw [kv_keys]
  have sq := sameNew nq (.lst ((es.map (·.1)).map V.str))
  refine ⟨q, es.map (·.1), rfl, SqL.of upd_same, by rw [List.length_map]; omega, fun ys r perm _ nr => ?_⟩
  have sr := sameNew nr (.lst (ys.map V.str))
  have ly : ys.length = es.length := by rw [perm.length_eq, List.length_map]
  have dp : d ≠ p := fun z => by
    obtain ⟨_, _, _, hp, _⟩ := pen
    rw [z, hp.at_] at hd
    have hd := HO.dK.inj (Option.some.inj hd)
    cases es with
    | nil => simp at l1
    | cons e es =>
      simp only [penK, List.map_cons, kvOf, List.cons.injEq, Prod.mk.injEq] at hd
      exact nomatch hd.1.2
  refine .inl ⟨p, c, r, n, _, rfl, (pen.same sq).same sr, by omega, upd_same, by rw [List.length_map]; omega, by rw [List.length_map]; omega, fun x H1 hx pen1 sb1 => ?_⟩
  obtain ⟨z, hz, rfl⟩ := List.mem_map.mp hx
  have hz' : z ∈ es.map (·.1) := perm.mem_iff.mp hz
  have sA := ((Sb.same sq).trans (Sb.same sr)).trans sb1
  refine ⟨_, rfl, by show 2 ≤ sizeLine; decide, fun e he => .inl ⟨p, c, e, _, _, rfl, pen1.same (sameNew he _), by omega, upd_same, by simp, by simp, fun x H2 hx pen2 sb2 => ?_⟩⟩
  obtain ⟨so, hso, rfl⟩ := sorts_mem hx
  have sB := sA.trans ((Sb.same (sameNew he _)).trans sb2)
  refine ⟨_, rfl, _, rfl, _, _, rfl, rfl, p, c, _, _, rfl, pen2, by omega, by omega, by omega, fun v H3 u1 u2 pen3 sb3 => ?_⟩
  have sC := sB.trans sb3
  have hd3 := sC.to dp hd
  obtain ⟨i, hie, hval⟩ := val_kv hz'
  have hib := hi _ hie
  have fg := farG
  have gg := greatG
  have lk : lookE es z = i := by
    unfold lookE
    rw [hval]
  have fin : ∀ (j : Int), (if decide (so = "least") = true then decide (j ≤ i) else decide (i ≤ j)) = true → -greatS ≤ j → j ≤ greatS → ∀ t, H3 t = none → Q (.ref t) (L2.upd H3 t (.tup [.str z, .str so, .int j])) := fun j j0 j1 j2 t ht =>
    k t z so j _ ((pen3.same (sameNew ht _)).mono (by omega)) (sC.trans (Sb.same (sameNew ht _))) (sC.free (pen3.newp ht) ht) upd_same hz' hso j1 j2 (by
      show (if decide (so = "least") = true then decide (j ≤ lookE es z) else decide (lookE es z ≤ j)) = true
      rw [lk]
      exact j0)
  refine ⟨_, _, _, rfl, _, rfl, _, rfl, _, rfl, rfl, _, rfl, ?_⟩
  refine ite2 (fun c => ?_) (fun c => ?_)
  · have c' : decide (so = ("least" : Str)) = true := by simpa using c
    refine ⟨_, rfl, _, rfl, d, _, rfl, dg_kv hd3 hval, _, rfl, _, _, rfl, rfl, by show 3 ≤ sizeLine; decide, fin _ (by rw [if_pos c']; exact decide_eq_true (by omega)) ?_ ?_⟩
    · simp only at hib ⊢
      omega
    · simp only at hib ⊢
      omega
  · have c' : ¬ decide (so = ("least" : Str)) = true := by simpa using c
    refine ⟨_, rfl, _, rfl, d, _, rfl, dg_kv hd3 hval, _, rfl, _, _, rfl, rfl, by show 3 ≤ sizeLine; decide, fin _ (by rw [if_neg c']; exact decide_eq_true (by omega)) ?_ ?_⟩
    · simp only at hib ⊢
      omega
    · simp only at hib ⊢
      omega
end
end Pk
/-! What stands apart from some addresses; data that is small enough. -/
namespace Pk
open PySem L2
def zn (X : List Addr) (H : Hp) : Hp := fun b => if b ∈ X then none else H b
theorem zn_in {X : List Addr} {H : Hp} {b : Addr} (h : b ∈ X) : zn X H b = none := if_pos h
theorem zn_out {X : List Addr} {H : Hp} {b : Addr} (h : b ∉ X) : zn X H b = H b := if_neg h
theorem zn_some {X : List Addr} {H : Hp} {b : Addr} {o : HO} (h : zn X H b = some o) : b ∉ X ∧ H b = some o := by
  by_cases hb : b ∈ X
  · rw [zn_in hb] at h
    cases h
  · rw [zn_out hb] at h
    exact ⟨hb, h⟩
theorem zn_le {X : List Addr} {H : Hp} : Same (zn X H) H := fun _ _ e => (zn_some e).2
theorem zn_mono {X : List Addr} {H H' : Hp} (s : Same H H') : Same (zn X H) (zn X H') := fun b o e => by
  obtain ⟨h1, h2⟩ := zn_some e
  rw [zn_out h1]
  exact s _ _ h2
theorem zn_sb {X : List Addr} {p : Addr} {H H' : Hp} (s : Sb p H H') (hp : p ∈ X) : Same (zn X H) (zn X H') := fun b o e => by
  obtain ⟨h1, h2⟩ := zn_some e
  rw [zn_out h1]
  exact s.to (fun z => h1 (z ▸ hp)) h2
theorem zn_drop {X : List Addr} {D : Addr} {H : Hp} : Same (zn (D :: X) H) (zn X H) := fun b o e => by
  obtain ⟨h1, h2⟩ := zn_some e
  rw [zn_out fun z => h1 (List.mem_cons_of_mem _ z)]
  exact h2
theorem zn_fresh {X : List Addr} {D : Addr} {H : Hp} (h : H D = none) : Same (zn X H) (zn (D :: X) H) := fun b o e => by
  obtain ⟨h1, h2⟩ := zn_some e
  rw [zn_out fun z => by
    rcases List.mem_cons.mp z with z | z
    · rw [z, h] at h2
      cases h2
    · exact h1 z]
  exact h2
theorem zn_upd {X : List Addr} {D : Addr} {H : Hp} {o : HO} (hD : D ∈ X) : Same (zn X H) (zn X (upd H D o)) := fun b u e => by
  obtain ⟨h1, h2⟩ := zn_some e
  have hb : b ≠ D := fun z => h1 (by rw [z]; exact hD)
  rw [zn_out h1, upd_ne hb]
  exact h2
/-- the addresses are taken; p is one of them -/
structure Al (p : Addr) (X : List Addr) (H : Hp) : Prop where
  mem : p ∈ X
  alc : ∀ b ∈ X, ∃ o, H b = some o
theorem Al.out {p t : Addr} {X : List Addr} {H : Hp} (a : Al p X H) (h : H t = none) : t ∉ X := fun z => by
  obtain ⟨o, e⟩ := a.alc t z
  rw [e] at h
  cases h
theorem Al.sb {p c : Addr} {n : Int} {X : List Addr} {H H' : Hp} (a : Al p X H) (s : Sb p H H') (h : PenC H' p c n) : Al p X H' := ⟨a.mem, fun b hb => by
  by_cases e : b = p
  · subst e
    obtain ⟨kv, h⟩ := h.atp
    exact ⟨_, h⟩
  · obtain ⟨o, ho⟩ := a.alc b hb
    exact ⟨o, s.to e ho⟩⟩
theorem Al.same {p : Addr} {X : List Addr} {H H' : Hp} (a : Al p X H) (s : Same H H') : Al p X H' := ⟨a.mem, fun b hb => let ⟨o, ho⟩ := a.alc b hb; ⟨o, s _ _ ho⟩⟩
theorem Al.upd {p : Addr} {X : List Addr} {H : Hp} {D : Addr} {o : HO} (a : Al p X H) : Al p X (L2.upd H D o) := ⟨a.mem, fun b hb => by
  by_cases e : b = D
  · subst e
    exact ⟨o, upd_same⟩
  · obtain ⟨u, hu⟩ := a.alc b hb
    exact ⟨u, by rw [upd_ne e]; exact hu⟩⟩
theorem Al.new {p : Addr} {X : List Addr} {H : Hp} {D : Addr} {o : HO} (a : Al p X H) (h : H D = none) : Al p (D :: X) (L2.upd H D o) := ⟨List.mem_cons_of_mem _ a.mem, fun b hb => by
  rcases List.mem_cons.mp hb with e | hb
  · rw [e]
    exact ⟨o, upd_same⟩
  · exact (a.upd (D := D) (o := o)).alc b hb⟩
/-! ### data that is small enough -/
def oddDict : List (PyData × PyData) → Bool
  | [] => true
  | [(.str z, .int i)] => decide (z = "a") && decide (i = 0)
  | _ => false
mutual
def lv (k : Nat) : PyData → Bool
  | .none | .bool _ => true
  | .int i => decide (i.natAbs ≤ 10 ^ 60 + k)
  | .str z => z.cps.toList.all fun c => decide (c ≤ 2000000 * (k + 1))
  | .list xs | .tuple xs => lvs k xs
  | .dict es => oddDict es
def lvs (k : Nat) : List PyData → Bool
  | [] => true
  | x :: xs => lv k x && lvs k xs
end
theorem lvs_all {k : Nat} : ∀ {ds : List PyData}, (∀ d ∈ ds, lv k d = true) → lvs k ds = true
  | [], _ => rfl
  | d :: ds, h => by
    rw [lvs, h d List.mem_cons_self, lvs_all fun e he => h e (List.mem_cons_of_mem _ he)]
    rfl
theorem lvs_mem {k : Nat} : ∀ {ds : List PyData} {d : PyData}, lvs k ds = true → d ∈ ds → lv k d = true
  | [], _, _, h => absurd h (by simp)
  | x :: xs, d, e, h => by
    rw [lvs, Bool.and_eq_true] at e
    rcases List.mem_cons.mp h with h | h
    · rw [h]; exact e.1
    · exact lvs_mem e.2 h
mutual
theorem lv_mono {k : Nat} : ∀ {d : PyData}, lv k d = true → lv (k + 1) d = true
  | .none, _ => rfl
  | .bool _, _ => rfl
  | .int i, h => by
    simp only [lv, decide_eq_true_eq] at h ⊢
    omega
  | .str z, h => by
    simp only [lv, List.all_eq_true, decide_eq_true_eq] at h ⊢
    intro c hc
    have := h c hc
    omega
  | .list xs, h => by
    simp only [lv] at h ⊢
    exact lvs_mono h
  | .tuple xs, h => by
    simp only [lv] at h ⊢
    exact lvs_mono h
  | .dict es, h => by simpa only [lv] using h
theorem lvs_mono {k : Nat} : ∀ {ds : List PyData}, lvs k ds = true → lvs (k + 1) ds = true
  | [], _ => rfl
  | d :: ds, h => by
    rw [lvs, Bool.and_eq_true] at h ⊢
    exact ⟨lv_mono h.1, lvs_mono h.2⟩
end
theorem bulk_mem : ∀ {ds : List PyData} {d : PyData}, d ∈ ds → d.bulk + 1 ≤ PyData.bulkAll ds
  | [], _, h => absurd h (by simp)
  | x :: xs, d, h => by
    rw [PyData.bulkAll]
    rcases List.mem_cons.mp h with h | h
    · rw [h]; omega
    · have := bulk_mem h
      omega
theorem bulk_len : ∀ ds : List PyData, ds.length ≤ PyData.bulkAll ds
  | [] => by simp
  | x :: xs => by
    have := bulk_len xs
    rw [PyData.bulkAll, List.length_cons]
    omega
theorem bulk_app : ∀ (as bs : List PyData), PyData.bulkAll (as ++ bs) = PyData.bulkAll as + PyData.bulkAll bs
  | [], bs => by simp [PyData.bulkAll]
  | a :: as, bs => by
    rw [List.cons_append, PyData.bulkAll, PyData.bulkAll, bulk_app as bs]
    omega
theorem depth_mem : ∀ {ds : List PyData} {d : PyData}, d ∈ ds → d.depth ≤ PyData.depthAll ds
  | [], _, h => absurd h (by simp)
  | x :: xs, d, h => by
    rw [PyData.depthAll]
    rcases List.mem_cons.mp h with h | h
    · rw [h]; omega
    · have := depth_mem h
      omega
theorem depth_all {n : Nat} : ∀ {ds : List PyData}, (∀ d ∈ ds, d.depth ≤ n) → PyData.depthAll ds ≤ n
  | [], _ => by simp [PyData.depthAll]
  | d :: ds, h => by
    have h1 := h d List.mem_cons_self
    have h2 := depth_all fun e he => h e (List.mem_cons_of_mem _ he)
    rw [PyData.depthAll]
    omega
theorem bulk_all {n : Nat} : ∀ {ds : List PyData}, (∀ d ∈ ds, d.bulk ≤ n) → PyData.bulkAll ds ≤ (n + 1) * ds.length
  | [], _ => by simp [PyData.bulkAll]
  | d :: ds, h => by
    have h1 := h d List.mem_cons_self
    have h2 := bulk_all fun e he => h e (List.mem_cons_of_mem _ he)
    rw [PyData.bulkAll, List.length_cons, Nat.mul_succ]
    omega
theorem lay_all : ∀ {ds : List PyData}, (∀ d ∈ ds, d.canLay0 = true) → PyData.canLayAll0 ds = true
  | [], _ => by simp only [PyData.canLayAll0]
  | d :: ds, h => by
    rw [PyData.canLayAll0, h d List.mem_cons_self, lay_all fun e he => h e (List.mem_cons_of_mem _ he)]
    rfl
theorem int_short {i : Int} {k : Nat} (hk : k ≤ 10) (h : i.natAbs ≤ 10 ^ 60 + k) : i.natAbs.log2 < 1920 ∧ (PyData.shown (.int i)).length ≤ 100 := by
  have h1 : i.natAbs < 10 ^ 61 := by
    have : (10 : Nat) ^ 60 + 10 < 10 ^ 61 := by decide +kernel
    omega
  constructor
  · by_cases h0 : i.natAbs = 0
    · rw [h0]; decide
    · rw [Nat.log2_lt h0]
      exact Nat.lt_trans h1 (by decide +kernel)
  · have h2 := int_text_length_le10 (k := 61) (by decide) h1
    have e : (PyData.shown (.int i)).length = (toString i).length := by
      simp only [PyData.shown]
      exact ofString_length _
    omega
mutual
/-- what the looks ask of data -/
theorem lv_ok {k : Nat} (hk : k ≤ 10) : ∀ {d : PyData}, lv k d = true → d.bulk ≤ 100000 → okS d = true ∧ d.showable = true ∧ d.leavesShort 100 = true
  | .none, _, _ => ⟨rfl, rfl, rfl⟩
  | .bool _, _, _ => ⟨rfl, rfl, rfl⟩
  | .int i, h, _ => by
    simp only [lv, decide_eq_true_eq] at h
    obtain ⟨a, b⟩ := int_short hk h
    exact ⟨rfl, by simp only [PyData.showable, decide_eq_true_eq]; exact a, by simp only [PyData.leavesShort, decide_eq_true_eq]; exact b⟩
  | .str z, h, hb => by
    simp only [lv, List.all_eq_true, decide_eq_true_eq] at h
    simp only [PyData.bulk] at hb
    refine ⟨by simp only [okS, decide_eq_true_eq]; exact hb, rfl, ?_⟩
    simp only [PyData.leavesShort, List.all_eq_true, decide_eq_true_eq]
    intro c hc
    have q := h c hc
    have e : (16 : Nat) ^ 8 = 4294967296 := by decide
    have : 2000000 * (k + 1) ≤ 22000000 := by omega
    omega
  | .list xs, h, hb => by
    simp only [lv] at h
    simp only [PyData.bulk] at hb
    simpa only [okS, PyData.showable, PyData.leavesShort] using lvs_ok hk h hb
  | .tuple xs, h, hb => by
    simp only [lv] at h
    simp only [PyData.bulk] at hb
    simpa only [okS, PyData.showable, PyData.leavesShort] using lvs_ok hk h hb
  | .dict es, h, hb => by
    simp only [lv] at h
    unfold oddDict at h
    split at h
    · exact ⟨rfl, rfl, rfl⟩
    · rename_i z i
      rw [Bool.and_eq_true, decide_eq_true_eq, decide_eq_true_eq] at h
      obtain ⟨rfl, rfl⟩ := h
      exact ⟨by decide +kernel, by decide +kernel, by decide +kernel⟩
    · cases h
theorem lvs_ok {k : Nat} (hk : k ≤ 10) : ∀ {ds : List PyData}, lvs k ds = true → PyData.bulkAll ds ≤ 100000 → okSs ds = true ∧ PyData.showableAll ds = true ∧ PyData.leavesShortAll 100 ds = true
  | [], _, _ => ⟨rfl, rfl, rfl⟩
  | d :: ds, h, hb => by
    rw [lvs, Bool.and_eq_true] at h
    rw [PyData.bulkAll] at hb
    obtain ⟨a1, a2, a3⟩ := lv_ok hk h.1 (by omega)
    obtain ⟨b1, b2, b3⟩ := lvs_ok hk h.2 (by omega)
    exact ⟨by rw [okSs, a1, b1]; rfl, by rw [PyData.showableAll, a2, b2]; rfl, by rw [PyData.leavesShortAll, a3, b3]; rfl⟩
end
theorem lv_shown {k : Nat} (hk : k ≤ 10) {d : PyData} (h : lv k d = true) (hb : d.bulk ≤ 100000) : d.shown.length ≤ sizeLine := by
  have h1 := PyData.shown_le_bulk 100 (by decide) d (lv_ok hk h hb).2.2
  rw [sizeLine_eq]
  omega
end Pk
namespace Pk
open PySem L2
structure RuleG (ns : List Str) (r : PyData) : Prop where
  rule : ruleD ns r = true
  lay : r.canLay0 = true
  depth : r.depth ≤ 2
  bulk : r.bulk ≤ 120
  lv : lv 0 r = true
theorem nm_str {z : Str} (h : nmOk z) : PyData.strOk z = true ∧ Pk.lv 0 (.str z) = true ∧ z.cps.size ≤ 30 := by
  refine ⟨?_, ?_, h.1⟩
  · unfold PyData.strOk
    rw [← Array.all_toList, List.all_eq_true]
    intro c hc
    have q := h.2 c hc
    simp only [smallC, Bool.and_eq_true, decide_eq_true_eq] at q
    simp only [decide_eq_true_eq]
    omega
  · simp only [Pk.lv, List.all_eq_true, decide_eq_true_eq]
    intro c hc
    have q := h.2 c hc
    simp only [smallC, Bool.and_eq_true, decide_eq_true_eq] at q
    omega
theorem great_lt : greatS.natAbs * 10 ≤ 10 ^ 60 := by decide +kernel
theorem int_lv {i : Int} (h1 : -(10 * greatS) ≤ i) (h2 : i ≤ 10 * greatS) : Pk.lv 0 (.int i) = true := by
  simp only [Pk.lv, decide_eq_true_eq]
  have := great_lt
  have := greatG
  omega
structure SayG (ns : List Str) (r : PyData) : Prop where
  say : sayingD ns r = true
  lay : r.canLay0 = true
  depth : r.depth ≤ 1
  bulk : r.bulk ≤ 50
  lv : Pk.lv 0 r = true
theorem words_nm : ∀ z ∈ (["one", "off", "most", "least", "both", "up", "down"] : List Str), nmOk z := by
  have h : ∀ z ∈ (["one", "off", "most", "least", "both", "up", "down"] : List Str), z.length ≤ 30 ∧ z.cps.toList.all smallC = true := by decide +kernel
  exact fun z hz => ⟨(h z hz).1, fun c hc => List.all_eq_true.mp (h z hz).2 c hc⟩
theorem sort_size : ∀ z ∈ sorts2, z.cps.size ≤ 5 := by decide +kernel
theorem sort_nm {z : Str} (h : z ∈ sorts2) : nmOk z := by
  have e : ∀ z ∈ sorts2, z ∈ (["one", "off", "most", "least", "both", "up", "down"] : List Str) := by decide +kernel
  exact words_nm z (e z h)
theorem pair_nm {z : Str} (h : z ∈ pairs3) : nmOk z := by
  have e : ∀ z ∈ pairs3, z ∈ (["one", "off", "most", "least", "both", "up", "down"] : List Str) := by decide +kernel
  exact words_nm z (e z h)
theorem way_nm {z : Str} (h : z ∈ ways3) : nmOk z := by
  have e : ∀ z ∈ ways3, z ∈ (["one", "off", "most", "least", "both", "up", "down"] : List Str) := by decide +kernel
  exact words_nm z (e z h)
theorem inS_of {zs : List Str} {z : Str} (h : z ∈ zs) : inS zs (.str z) = true := by
  unfold inS
  rw [List.any_eq_true]
  exact ⟨z, h, by simp [strIs]⟩
theorem say_of {ns : List Str} {z so : Str} {i : Int} (h : z ∈ ns) (hs : so ∈ sorts2) (h1 : -greatS ≤ i) (h2 : i ≤ greatS) : sayingD ns (.tuple [.str z, .str so, .int i]) = true := by
  show (inS ns (.str z) && (inS sorts2 (.str so) && wholeD (-greatS) greatS (.int i))) = true
  rw [inS_of h, inS_of hs, wholeD, decide_eq_true h1, decide_eq_true h2]
  rfl
theorem say_g {ns : List Str} {z so : Str} {i : Int} (hz : z ∈ ns) (h : nmOk z) (hs : so ∈ sorts2) (g1 : -greatS ≤ i) (g2 : i ≤ greatS) : SayG ns (.tuple [.str z, .str so, .int i]) := by
  have gg := greatG
  have h1 : -(10 * greatS) ≤ i := by omega
  have h2 : i ≤ 10 * greatS := by omega
  obtain ⟨a1, a2, a3⟩ := nm_str h
  obtain ⟨b1, b2, _⟩ := nm_str (sort_nm hs)
  have b3 := sort_size so hs
  have c := int_lv h1 h2
  refine ⟨say_of hz hs g1 g2, by simp [PyData.canLay0, PyData.canLayAll0, a1, b1], by simp [PyData.depth, PyData.depthAll], ?_, by simp only [Pk.lv, lvs, Bool.and_true, Bool.and_eq_true] at *; exact ⟨a2, b2, c⟩⟩
  simp only [PyData.bulk, PyData.bulkAll]
  omega
theorem rule_one {ns : List Str} {a b : PyData} (ha : SayG ns a) (hb : SayG ns b) : RuleG ns (.tuple [.str "one", a, b]) := by
  have o : PyData.strOk ("one" : Str) = true := by decide +kernel
  have l : Pk.lv 0 (.str "one") = true := by decide +kernel
  have z : ("one" : Str).cps.size = 3 := by decide +kernel
  have d1 := ha.depth
  have d2 := hb.depth
  have e1 := ha.bulk
  have e2 := hb.bulk
  refine ⟨?_, by simp [PyData.canLay0, PyData.canLayAll0, ha.lay, hb.lay, o], ?_, ?_, ?_⟩
  · show (strIs "one" (.str "one") && (sayingD ns a && sayingD ns b)) = true
    rw [ha.say, hb.say]
    simp [strIs]
  · simp only [PyData.depth, PyData.depthAll]
    omega
  · simp only [PyData.bulk, PyData.bulkAll, z]
    omega
  · rw [Pk.lv, lvs, lvs, lvs, l, ha.lv, hb.lv]
    rfl
theorem rule_pair_of {ns : List Str} {w a b : Str} {i : Int} (hw : w ∈ pairs3) (za : a ∈ ns) (zb : b ∈ ns) (ne : a ≠ b) (g1 : -greatS ≤ i) (g2 : i ≤ greatS) : ruleD ns (.tuple [.str w, .str a, .str b, .int i]) = true := by
  show (inS pairs3 (.str w) && (inS ns (.str a) && (inS ns (.str b) && (!sameS (.str a) (.str b) && wholeD (-greatS) greatS (.int i))))) = true
  rw [inS_of hw, inS_of za, inS_of zb, wholeD, decide_eq_true g1, decide_eq_true g2]
  simp [sameS, ne]
theorem rule_pair {ns : List Str} {w a b : Str} {i : Int} (hw : w ∈ pairs3) (za : a ∈ ns) (zb : b ∈ ns) (ne : a ≠ b) (ha : nmOk a) (hb : nmOk b) (g1 : -greatS ≤ i) (g2 : i ≤ greatS) : RuleG ns (.tuple [.str w, .str a, .str b, .int i]) := by
  have gg := greatG
  have h1 : -(10 * greatS) ≤ i := by omega
  have h2 : i ≤ 10 * greatS := by omega
  obtain ⟨w1, w2, w3⟩ := nm_str (pair_nm hw)
  obtain ⟨a1, a2, a3⟩ := nm_str ha
  obtain ⟨b1, b2, b3⟩ := nm_str hb
  have c := int_lv h1 h2
  refine ⟨rule_pair_of hw za zb ne g1 g2, by simp [PyData.canLay0, PyData.canLayAll0, a1, b1, w1], by simp [PyData.depth, PyData.depthAll], ?_, ?_⟩
  · simp only [PyData.bulk, PyData.bulkAll]
    omega
  · rw [Pk.lv, lvs, lvs, lvs, lvs, w2, a2, b2, c]
    rfl
def spTRule : Sp := fun vs H Q _ => ∃ (p c d : Addr) (X : List Addr) (n sl : Int) (es : List (Str × Int)), vs = [.ref p, .ref d, .int sl] ∧ PenC H p c n ∧ Al p X H ∧ n ≤ 200000000 ∧ H d = some (.dK (es.map kvOf)) ∧ 1 ≤ es.length ∧ es.length ≤ 12 ∧ (∀ e ∈ es, nmOk e.1 ∧ -farS ≤ e.2 ∧ e.2 ≤ farS) ∧ (es.map (·.1)).Nodup ∧ 0 ≤ sl ∧ sl ≤ 5 ∧
  ∀ (t : Addr) (r : PyData) (H' : Hp), PenC H' p c (n + 100) → Sb p H H' → Tr (zn X H') (.ref t) r → RuleG (es.map (·.1)) r → ruleH (lookE es) r = true → Q (.ref t) H'
abbrev nTRule : List Str := ["_law_pen_here", "_law_at", "_law_slack", "_law_names_here", "_law_way", "_law_by", "_law_one", "_law_two", "_law_name", "_law_both"]
section
variable {P : Program} {w : World} {K : PySem.W.Frag} {mg : Str → Option Value} {base : Heap}
theorem scTRule : FnScope nTRule ["_law_pen_here", "_law_at", "_law_slack"] (defScope sTRule) := ⟨rfl, rfl, rfl, by decide +kernel, rfl, by decide +kernel, by decide +kernel⟩
set_option maxHeartbeats 1000000 in
theorem ok_trule {f g g2 g3 g4 : Addr} {fd gd gd2 gd3 gd4 : FuncData} (F : Fun K "_law_true_rule" "_law_true_rule" sTRule f fd) (G : FnOk P w K mg base CX0 1 g gd ["_law_pen_here", "_law_many"] spDrawC) (bG : Binds K gd ["_law_pen_here", "_law_many"] []) (kG : PySem.W.keepIn K (.ref g) = true) (mG : mg "_law_draw" = some (.ref g))
    (G2 : FnOk P w K mg base CX0 2 g2 gd2 ["_law_pen_here", "_law_some"] spShuf) (bG2 : Binds K gd2 ["_law_pen_here", "_law_some"] []) (kG2 : PySem.W.keepIn K (.ref g2) = true) (mG2 : mg "_law_shuffled" = some (.ref g2))
    (G3 : FnOk P w K mg base CX0 3 g3 gd3 ["_law_pen_here", "_law_at", "_law_slack"] spTSay) (bG3 : Binds K gd3 ["_law_pen_here", "_law_at", "_law_slack"] []) (kG3 : PySem.W.keepIn K (.ref g3) = true) (mG3 : mg "_law_true_saying" = some (.ref g3))
    (G4 : FnOk P w K mg base CX0 4 g4 gd4 ["_law_pen_here", "_law_names_here", "_law_numbers"] spSayL) (bG4 : Binds K gd4 ["_law_pen_here", "_law_names_here", "_law_numbers"] []) (kG4 : PySem.W.keepIn K (.ref g4) = true) (mG4 : mg "_law_saying" = some (.ref g4)) (B : Blt mg) :
    FnOk P w K mg base CX0 5 f fd ["_law_pen_here", "_law_at", "_law_slack"] spTRule := by
  refine F.ok scTRule (fun vs H Q E h => ?_) (fun cdv A outer s H vs Q E hr h => ?_)
  · obtain ⟨p, c, d, X, n, sl, es, rfl, _⟩ := h
    rfl
  obtain ⟨p, c, d, X, n, sl, es, rfl, pen, al, hn, hd, l1, l2, hi, ndk, sl1, sl2, k⟩ := h
  have hu := hu_of hr
  have hr1 : Room 1 _ := hr.mono (by decide)
  have hr2 : Room 2 _ := hr.mono (by decide)
  have hr3 : Room 3 _ := hr.mono (by decide)
  refine ⟨_, pss_cons (ps_par3 (i := 3) (j := 4) (l := 5) (by rfl) scTRule.nd rfl rfl rfl (by decide) (by decide) (by decide) rfl rfl rfl (pa_cons (pe_call G2 hr2 rfl mG2 kG2 bG2 .nil pass0 (pa_cons (pv 0) (pa_cons (pe_callB cr_sortedS (by rfl) B.sorted (by decide +kernel) (pa_cons (pe_callTy (call_listD rfl) (by rfl) B.list (by decide +kernel) (pa_cons (pv 1) pa_nil)) pa_nil)) pa_nil)))
      (pa_cons (pe_call G hr1 rfl mG kG bG .nil pass0 (pa_cons (pv 0) (pa_cons pe_int pa_nil))) (pa_cons (pe_call G hr1 rfl mG kG bG .nil pass0 (pa_cons (pv 0) (pa_cons (pe_op op_add (pv 2) pe_int) pa_nil))) pa_nil))) (by rfl)) <|
    pss_cons (ps_if (PW.pt (pw_or (pt_cmpR op_eq (pe_callB call_len_seq (by rfl) B.len PySem.boot_len (pa_cons (pv 3) pa_nil)) pe_int (nomark _)) (pw_or1 (pt_cmpR op_gt (pv 4) pe_int (nomark _)))))
      (pss_cons (ps_par (i := 6) (j := 7) (by rfl) scTRule.nd rfl rfl (by decide) rfl rfl (pa_cons (pe_call G3 hr3 rfl mG3 kG3 bG3 .nil pass0 (pa_cons (pv 0) (pa_cons (pv 1) (pa_cons (pv 2) pa_nil)))) (pa_cons (pe_call G4 hr rfl mG4 kG4 bG4 .nil pass0 (pa_cons (pv 0) (pa_cons (pv 3) (pa_cons (pe_lc (own := [("_law_name", 8)]) (g := gName 8) (by rfl) scTRule.nd (pi_list (pv 3)) (blkOk_by (N := nTRule) (sc := defScope sTRule) (by decide +kernel)) (fun _ _ _ _ _ => pg_name (i := 8) scTRule.nd rfl (Or.inl rfl)) (fun _ _ _ _ _ => pts_nil) (fun _ _ _ _ _ => pe_dget hu (pv 1) (pv 8) (fun _ _ => rfl))) pa_nil)))) pa_nil)) (by rfl))
      (pss_cons (ps_if (pt_cmpR op_eq (pe_call G hr1 rfl mG kG bG .nil pass0 (pa_cons (pv 0) (pa_cons pe_int pa_nil))) pe_int (nomark _))
        (pss_one (ps_set (i := 7) scTRule.nd rfl (.inl rfl) (pe_tup (pa_cons (pe_ix ix_tup (pv 6) pe_int (fun _ _ => rfl)) (pa_cons (pe_ifExp (pt_cmpR op_eq (pe_ix ix_tup (pv 6) pe_int (fun _ _ => rfl)) pe_str (nomark _)) pe_str pe_str) (pa_cons (pe_ix ix_tup (pv 7) pe_int (fun _ _ => rfl)) pa_nil)))))) pss_nil)
      (pss_one (ps_ret (pe_ifExp (pt_cmpR op_eq (pe_call G hr1 rfl mG kG bG .nil pass0 (pa_cons (pv 0) (pa_cons pe_int pa_nil))) pe_int (nomark _)) (pe_tup (pa_cons pe_str (pa_cons (pv 6) (pa_cons (pv 7) pa_nil)))) (pe_tup (pa_cons pe_str (pa_cons (pv 7) (pa_cons (pv 6) pa_nil))))))))) pss_nil) <|
    pss_cons (ps_asg (pe_slice sl_list (pv 3) po_none (po_some pe_int)) (pg_lst (by rfl) (pgs_cons (pg_name (i := 6) scTRule.nd rfl (.inl rfl)) <| pgs_cons (pg_name (i := 7) scTRule.nd rfl (.inl rfl)) pgs_nil))) <|
    pss_cons (ps_if (pt_cmpR op_eq (pv 4) pe_int (nomark _)) (pss_one (ps_ret (pe_tup (pa_cons pe_str (pa_cons (pv 6) (pa_cons (pv 7) (pa_cons (pe_op op_add (pe_op op_sub (pe_dget hu (pv 1) (pv 6) (fun _ _ => rfl)) (pe_dget hu (pv 1) (pv 7) (fun _ _ => rfl))) (pv 5)) pa_nil))))))) pss_nil) <|
    pss_cons (ps_set (i := 9) scTRule.nd rfl (.inl rfl) (pe_op op_add (pe_dget hu (pv 1) (pv 6) (fun _ _ => rfl)) (pe_dget hu (pv 1) (pv 7) (fun _ _ => rfl)))) <|
    pss_one (ps_ret (pe_ifExp (pt_cmpR op_eq (pv 4) pe_int (nomark _)) (pe_tup (pa_cons pe_str (pa_cons (pv 6) (pa_cons (pv 7) (pa_cons (pe_op op_add (pv 9) (pv 5)) pa_nil))))) (pe_tup (pa_cons pe_str (pa_cons (pv 6) (pa_cons (pv 7) (pa_cons (pe_op op_sub (pv 9) (pv 5)) pa_nil))))))), ?_⟩
  have fg := farG
  have gg := greatG
  have dp : d ≠ p := fun z => by
    obtain ⟨_, _, _, hp, _⟩ := pen
    rw [z, hp.at_] at hd
    have hd := HO.dK.inj (Option.some.inj hd)
    cases es with
    | nil => simp at l1
    | cons e es =>
      simp only [penK, List.map_cons, kvOf, List.cons.injEq, Prod.mk.injEq] at hd
      exact nomatch hd.1.2
  have key : ∀ {z : Str}, z ∈ es.map (·.1) → nmOk z ∧ ∃ i, -farS ≤ i ∧ i ≤ farS ∧ valV (es.map kvOf) (Sum.inr z) = some (.int i) := fun {z} hz => by
    obtain ⟨i, h1, h2⟩ := val_kv hz
    have q := hi _ h1
    exact ⟨q.1, i, q.2.1, q.2.2, h2⟩
  refine ⟨_, rfl, _, rfl, d, _, rfl, .inl hd, fun q nq => ?_⟩
  rw [kv_keys]
  have sq := sameNew nq (.lst ((es.map (·.1)).map V.str))
  refine ⟨q, es.map (·.1), rfl, SqL.of upd_same, by rw [List.length_map]; omega, fun ys r perm _ nr => ?_⟩
  have sr := sameNew nr (.lst (ys.map V.str))
  have ly : ys.length = es.length := by rw [perm.length_eq, List.length_map]
  refine ⟨p, c, r, n, ys, rfl, (pen.same sq).same sr, by omega, upd_same, by omega, fun a ss H1 pen1 sb1 na ha hss1 hss2 hss3 => ?_⟩
  have ndss : ss.Nodup := (hss3.trans perm).nodup_iff.mpr ndk
  have sA := ((Sb.same sq).trans (Sb.same sr)).trans sb1
  have hss : ∀ z ∈ ss, z ∈ es.map (·.1) := fun z hz => perm.mem_iff.mp (hss2 z hz)
  have lss : ss.length = es.length := by omega
  have ap := pen1.lstp ha
  refine ⟨_, rfl, p, c, _, _, rfl, pen1, by omega, by decide, by decide, fun way H2 u1 u2 pen2 sb2 => ?_⟩
  refine ⟨_, rfl, _, rfl, _, _, rfl, rfl, p, c, _, _, rfl, pen2, by omega, by omega, by omega, fun by_ H3 u3 u4 pen3 sb3 => ?_⟩
  have sB := sA.trans (sb2.trans sb3)
  have ha3 := sb3.to ap (sb2.to ap ha)
  have hd3 := sB.to dp hd
  have al3 := al.sb sB pen3
  generalize hN : n + 40 + 1 + 1 = N at pen3
  clear sA sb1 sb2 sb3 pen1 pen2 sq sr nq nr na ha
  refine ⟨_, _, _, rfl, _, rfl, a, _, rfl, .inl (SqL.of ha3), rfl, _, rfl, ?_⟩
  refine ite2 (fun c1 => ?w1) (fun c1 => ?_)
  rotate_left
  refine ⟨_, rfl, _, _, rfl, rfl, _, rfl, ?_⟩
  refine ite2 (fun c2 => ?w2) (fun c2 => ?w3)
  case w3 =>
    have c1' : ¬ ((((ss.map V.str).length : Nat) : Int) = 1) := fun z => c1 (by rw [z]; simp)
    rw [List.length_map] at c1'
    obtain ⟨z1, z2, rest, rfl⟩ : ∃ z1 z2 rest, ss = z1 :: z2 :: rest := by
      match ss, lss, c1' with
      | z1 :: z2 :: rest, _, _ => exact ⟨z1, z2, rest, rfl⟩
      | [_], _, h => exact absurd rfl h
      | [], h, _ => simp at h; omega
    have z12 : z1 ≠ z2 := fun e => by
      rw [List.nodup_cons] at ndss
      exact ndss.1 (by rw [e]; exact List.mem_cons_self)
    refine ⟨_, rfl, 2, rfl, a, _, rfl, SqL.of ha3, fun q nq => ?_⟩
    rw [show (2 : Int) = ((2 : Nat) : Int) from rfl, cut_to (by simp)]
    have sq := sameNew nq (.lst (((z1 :: z2 :: rest).map V.str).take 2))
    obtain ⟨nm1, i1, y1, y2, v1⟩ := key (hss z1 (by simp))
    obtain ⟨nm2, i2, y3, y4, v2⟩ := key (hss z2 (by simp))
    have hd4 := sq _ _ hd3
    have pen4 := pen3.same sq
    have sC := sB.trans (Sb.same sq)
    have al4 := al3.same sq
    refine ⟨q, _, rfl, SqL.of upd_same, rfl, _, _, rfl, _, _, rfl, rfl, ?_⟩
    generalize L2.upd H3 q (.lst (((z1 :: z2 :: rest).map V.str).take 2)) = H4 at hd4 pen4 sC al4
    have lk1 : lookE es z1 = i1 := by unfold lookE; rw [v1]
    have lk2 : lookE es z2 = i2 := by unfold lookE; rw [v2]
    have fin : ∀ (w' : Str) (i : Int), w' ∈ pairs3 → -greatS ≤ i → i ≤ greatS → (if decide (w' = "off") = true then decide (i1 ≤ i2 + i) else if decide (w' = "most") = true then decide (i1 + i2 ≤ i) else decide (i ≤ i1 + i2)) = true → ∀ t, H4 t = none → Q (.ref t) (L2.upd H4 t (.tup [.str w', .str z1, .str z2, .int i]))   := fun w' i hw h1 h2 h3 t ht => by
      refine k t _ _ ((pen4.same (sameNew ht _)).mono (by omega)) (sC.trans (Sb.same (sameNew ht _))) (.tup (.inl ?_) (.cons (.str _) (.cons (.str _) (.cons (.str _) (.cons (.int _) .nil))))) (rule_pair hw (hss z1 (by simp)) (hss z2 (by simp)) z12 nm1 nm2 h1 h2) (by
        show (if decide (w' = "off") = true then decide (lookE es z1 ≤ lookE es z2 + i) else if decide (w' = "most") = true then decide (lookE es z1 + lookE es z2 ≤ i) else decide (i ≤ lookE es z1 + lookE es z2)) = true
        rw [lk1, lk2]
        exact h3)
      rw [zn_out (al4.out ht), upd_same]
    refine ⟨_, rfl, rfl, _, rfl, ?_⟩
    refine ite2 (fun _ => ?_) (fun _ => ?_)
    · exact ⟨_, rfl, _, rfl, _, rfl, _, rfl, d, _, rfl, dg_kv hd4 v1, _, rfl, _, rfl, d, _, rfl, dg_kv hd4 v2, _, _, rfl, rfl, _, rfl, _, _, rfl, rfl, by show 4 ≤ sizeLine; decide, fin "off" _ (by decide +kernel) (by omega) (by omega) (decide_eq_true (show i1 ≤ i2 + (i1 - i2 + by_) by omega))⟩
    refine ⟨_, rfl, _, rfl, d, _, rfl, dg_kv hd4 v1, _, rfl, _, rfl, d, _, rfl, dg_kv hd4 v2, _, _, rfl, rfl, _, rfl, rfl, _, rfl, ?_⟩
    refine ite2 (fun _ => ?_) (fun _ => ?_)
    · exact ⟨_, rfl, _, rfl, _, rfl, _, rfl, _, _, rfl, rfl, by show 4 ≤ sizeLine; decide, fin "most" _ (by decide +kernel) (by omega) (by omega) (decide_eq_true (show i1 + i2 ≤ i1 + i2 + by_ by omega))⟩
    · exact ⟨_, rfl, _, rfl, _, rfl, _, rfl, _, _, rfl, rfl, by show 4 ≤ sizeLine; decide, fin "least" _ (by decide +kernel) (by omega) (by omega) (decide_eq_true (show i1 + i2 - by_ ≤ i1 + i2 by omega))⟩
  all_goals
    refine ⟨_, rfl, _, rfl, _, rfl, p, c, d, N, sl, es, rfl, pen3, by omega, hd3, l1, by omega, fun e he => (hi e he).2, sl1, sl2, fun t1 z1 so1 i1 H4 pen4 sb4 nt1 ht1 hz1 hso1 j1 j2 tru => ?_⟩
    have sC := sB.trans sb4
    have ha4 := sb4.to ap ha3
    have hd4 := sb4.to dp hd3
    have x1 : t1 ∉ X := al3.out nt1
    have t1p := pen4.tupp ht1
    refine ⟨_, rfl, _, rfl, _, rfl, a, rfl, ⟨_, SqL.of ha4⟩, fun D hD => lc_list (K := K) (a := a) (xs := ss.map V.str) (fun i H5 => ∃ is : List Int, H5 D = some (.lst (is.map V.int)) ∧ is.length = i ∧ (∀ j ∈ is, -farS ≤ j ∧ j ≤ farS) ∧ Same H4 H5)
      ⟨[], upd_same, rfl, fun _ h => absurd h (by simp), sameNew hD _⟩ (fun i H5 _ ⟨_, _, _, _, s5⟩ => SqL.of (s5 _ _ ha4)) ?_ ?_⟩
    · rintro i y H5 hy ⟨is, e1, e2, e3, s5⟩
      rw [List.getElem?_map] at hy
      obtain ⟨z, hz, rfl⟩ := Option.map_eq_some_iff.mp hy
      obtain ⟨_, iz, q1, q2, q3⟩ := key (hss z (List.mem_of_getElem? hz))
      have hil : i < ss.length := (List.getElem?_eq_some_iff.mp hz).1
      refine ⟨rfl, _, rfl, _, rfl, d, _, rfl, dg_kv (s5 _ _ hd4) q3, _, e1, small1000 (by rw [List.length_map]; omega), is ++ [iz], by rw [upd_same, List.map_append]; rfl, by simp [e2], fun j hj => ?_, fun b o e => ?_⟩
      · rcases List.mem_append.mp hj with hj | hj
        · exact e3 j hj
        · rw [List.mem_singleton.mp hj]
          exact ⟨q1, q2⟩
      · rw [upd_ne (ne_of_none e hD)]
        exact s5 _ _ e
    rintro H5 ⟨is, e1, e2, e3, s5⟩
    rw [List.length_map] at e2
    have sD := sC.trans (Sb.same s5)
    refine ⟨p, c, a, D, _, ss, is, rfl, pen4.same s5, by omega, s5 _ _ ha4, by omega, by omega, e1, by omega, by omega, e3, fun t2 z2 so2 i2 H6 pen6 sb6 nt2 ht2 hz2 hso2 j3 j4 => ?_⟩
    have sE := sD.trans sb6
    have x2 : t2 ∉ X := fun z => by
      obtain ⟨o, e⟩ := (al3.sb sb4 pen4).same s5 |>.alc t2 z
      rw [e] at nt2
      cases nt2
    have ht1' := sb6.to t1p (s5 _ _ ht1)
    have t2p := pen6.tupp ht2
    have g1 : SayG (es.map (·.1)) (.tuple [.str z1, .str so1, .int i1]) := say_g hz1 (key hz1).1 hso1 (by omega) (by omega)
    refine ⟨_, _, rfl, ?_⟩
    have fin : ∀ (t2 : Addr) (z2 so2 : Str) (i2 : Int) (H7 : Hp), t2 ∉ X → t2 ≠ p → H7 t2 = some (.tup [.str z2, .str so2, .int i2]) → H7 t1 = some (.tup [.str z1, .str so1, .int i1]) → SayG (es.map (·.1)) (.tuple [.str z2, .str so2, .int i2]) → PenC H7 p c (N + 41) → Sb p H H7 →
        (tIf (tTest (tOp rEq (tCall spDrawC [] E0 (tCons (tVar 0) (tCons (tC (V.int 2)) tNil))) (tC (V.int 0)))) (tTup (tCons (tC (V.str (Str.ofString "one"))) (tCons (tVar 6) (tCons (tVar 7) tNil)))) (tTup (tCons (tC (V.str (Str.ofString "one"))) (tCons (tVar 7) (tCons (tVar 6) tNil)))))
          [some (.ref p), some (.ref d), some (.int sl), some (.ref a), some (.int way), some (.int by_), some (.ref t1), some (.ref t2), none, none] H7 Q := fun t2 z2 so2 i2 H7 x2 t2p ht2 ht1 g2 pen7 sb7 => by
      refine ⟨_, rfl, p, c, _, _, rfl, pen7, by omega, by decide, by decide, fun v H8 _ _ pen8 sb8 => ⟨rfl, _, rfl, ?_⟩⟩
      have e1 := sb8.to t1p ht1
      have e2 := sb8.to t2p ht2
      have s8 := sb7.trans sb8
      have al8 := al.sb s8 pen8
      have T : ∀ {t' : Addr} {u : HO}, H8 t' = none → ∀ {H9}, H9 = L2.upd H8 t' u → Tr (zn X H9) (.ref t1) (.tuple [.str z1, .str so1, .int i1]) ∧ Tr (zn X H9) (.ref t2) (.tuple [.str z2, .str so2, .int i2]) := fun {t' u} ht' {H9} e9 => by
        subst e9
        exact ⟨.tup (.inl (by rw [zn_out x1]; exact sameNew ht' _ _ _ e1)) (.cons (.str _) (.cons (.str _) (.cons (.int _) .nil))), .tup (.inl (by rw [zn_out x2]; exact sameNew ht' _ _ _ e2)) (.cons (.str _) (.cons (.str _) (.cons (.int _) .nil)))⟩
      refine ite2 (fun _ => ?_) (fun _ => ?_)
      · refine ⟨_, rfl, _, rfl, by show 3 ≤ sizeLine; decide, fun t ht => ?_⟩
        obtain ⟨T1, T2⟩ := T (u := .tup [.str "one", .ref t1, .ref t2]) ht rfl
        exact k t _ _ ((pen8.same (sameNew ht _)).mono (by omega)) (s8.trans (Sb.same (sameNew ht _))) (.tup (.inl (by rw [zn_out (al8.out ht), upd_same])) (.cons (.str _) (.cons T1 (.cons T2 .nil)))) (rule_one g1 g2) (by show (holdsS _ _ || holdsS _ _) = true; rw [tru]; rfl)
      · refine ⟨_, rfl, _, rfl, by show 3 ≤ sizeLine; decide, fun t ht => ?_⟩
        obtain ⟨T1, T2⟩ := T (u := .tup [.str "one", .ref t2, .ref t1]) ht rfl
        exact k t _ _ ((pen8.same (sameNew ht _)).mono (by omega)) (s8.trans (Sb.same (sameNew ht _))) (.tup (.inl (by rw [zn_out (al8.out ht), upd_same])) (.cons (.str _) (.cons T2 (.cons T1 .nil)))) (rule_one g2 g1) (by show (holdsS _ _ || holdsS _ _) = true; rw [tru, Bool.or_true])
    refine ⟨_, rfl, p, c, _, _, rfl, pen6, by omega, by decide, by decide, fun v H7 _ _ pen7 sb7 => ⟨rfl, _, rfl, ?_⟩⟩
    have h1 := sb7.to t1p ht1'
    have h2 := sb7.to t2p ht2
    have sF := sE.trans sb7
    refine ite2 (fun _ => ?_) (fun _ => ?_)
    rotate_left
    · exact fin t2 z2 so2 i2 H7 x2 t2p h2 h1 (say_g (hss z2 hz2) (key (hss z2 hz2)).1 hso2 (by omega) (by omega)) (pen7.mono (by omega)) sF
    refine ⟨_, rfl, t1, _, _, _, rfl, rfl, SqT.of h1, (rfl : atI [V.str z1, V.str so1, V.int i1] 0 = some (V.str z1)), _, rfl, t1, _, _, _, rfl, rfl, SqT.of h1, (rfl : atI [V.str z1, V.str so1, V.int i1] 1 = some (V.str so1)), rfl, _, rfl, ?_⟩
    have more : ∀ so3 ∈ sorts2, ∀ t, H7 t = none → (tIf (tTest (tOp rEq (tCall spDrawC [] E0 (tCons (tVar 0) (tCons (tC (V.int 2)) tNil))) (tC (V.int 0)))) (tTup (tCons (tC (V.str (Str.ofString "one"))) (tCons (tVar 6) (tCons (tVar 7) tNil)))) (tTup (tCons (tC (V.str (Str.ofString "one"))) (tCons (tVar 7) (tCons (tVar 6) tNil)))))
          [some (.ref p), some (.ref d), some (.int sl), some (.ref a), some (.int way), some (.int by_), some (.ref t1), some (.ref t), none, none] (L2.upd H7 t (.tup [.str z1, .str so3, .int i2])) Q := fun so3 h3 t ht =>
      fin t z1 so3 i2 _ ((al.sb sF pen7).out ht) (pen7.newp ht) upd_same (sameNew ht _ _ _ h1) (say_g hz1 (key hz1).1 h3 (by omega) (by omega)) ((pen7.same (sameNew ht _)).mono (by omega)) (sF.trans (Sb.same (sameNew ht _)))
    refine ite2 (fun _ => ?_) (fun _ => ?_)
    · exact ⟨_, rfl, t2, _, _, _, rfl, rfl, SqT.of h2, (rfl : atI [V.str z2, V.str so2, V.int i2] 2 = some (V.int i2)), by show 3 ≤ sizeLine; decide, more "most" (by decide +kernel)⟩
    · exact ⟨_, rfl, t2, _, _, _, rfl, rfl, SqT.of h2, (rfl : atI [V.str z2, V.str so2, V.int i2] 2 = some (V.int i2)), by show 3 ≤ sizeLine; decide, more "least" (by decide +kernel)⟩
end
end Pk
namespace Pk
open PySem L2
/-- a dial by its kinds -/
def DialG (d : PyData) : Prop := ∃ (nm way : Str) (lo hi up dn : Int), d = .tuple [.str nm, .int lo, .int hi, .str way, .int up, .int dn] ∧ nmOk nm ∧ (1 ≤ nm.length ∧ nm.length ≤ 8) ∧ way ∈ ways3 ∧ -farS ≤ lo ∧ lo ≤ hi ∧ hi ≤ farS ∧ 1 ≤ up ∧ up ≤ 1000000 ∧ 1 ≤ dn ∧ dn ≤ 1000000
theorem dial_lv {d : PyData} (h : DialG d) : lv 0 d = true ∧ d.bulk ≤ 80 ∧ d.depth ≤ 1 := by
  obtain ⟨nm, way, lo, hi, up, dn, rfl, h1, _, h2, b1, b2, b3, b4, b5, b6, b7⟩ := h
  obtain ⟨_, a2, a3⟩ := nm_str h1
  obtain ⟨_, w2, w3⟩ := nm_str (way_nm h2)
  have fg := farG
  have gg := greatG
  have i1 := int_lv (i := lo) (by omega) (by omega)
  have i2 := int_lv (i := hi) (by omega) (by omega)
  have i3 := int_lv (i := up) (by omega) (by omega)
  have i4 := int_lv (i := dn) (by omega) (by omega)
  refine ⟨?_, ?_, ?_⟩
  · rw [lv, lvs, lvs, lvs, lvs, lvs, lvs, a2, i1, i2, w2, i3, i4]
    rfl
  · simp only [PyData.bulk, PyData.bulkAll]
    omega
  · simp only [PyData.depth, PyData.depthAll]
    omega
theorem dial_tup {H : Hp} {x : V} {d : PyData} (t : Tr H x d) (h : DialG d) : ∃ (b : Addr) (nm way : Str) (lo hi up dn : Int), x = .ref b ∧ Rd H b (.tup [.str nm, .int lo, .int hi, .str way, .int up, .int dn]) ∧ -farS ≤ lo ∧ lo ≤ hi ∧ hi ≤ farS ∧ nmOk nm ∧ d = .tuple [.str nm, .int lo, .int hi, .str way, .int up, .int dn] := by
  obtain ⟨nm, way, lo, hi, up, dn, rfl, h1, _, h2, b1, b2, b3, _⟩ := h
  cases t with
  | @tup b xs _ hb al =>
    revert hb
    match xs, al with
    | [_, _, _, _, _, _], .cons (.str _) (.cons (.int _) (.cons (.int _) (.cons (.str _) (.cons (.int _) (.cons (.int _) .nil))))) => exact fun hb => ⟨b, nm, way, lo, hi, up, dn, rfl, hb, b1, b2, b3, h1, rfl⟩
theorem dial_ok {d : PyData} (h : DialG d) : dialD d = true := by
  obtain ⟨nm, way, lo, hi, up, dn, rfl, h1, h0, h2, b1, b2, b3, b4, b5, b6, b7⟩ := h
  have e1 : nameD (.str nm) = true := by
    rw [nameD_str, decide_eq_true (by omega), decide_eq_true (by omega), List.all_eq_true.mpr h1.2]
    rfl
  show (nameD (.str nm) && (inS ways3 (.str way) && (wholeD (-farS) farS (.int lo) && (wholeD lo farS (.int hi) && (wholeD 1 1000000 (.int up) && wholeD 1 1000000 (.int dn)))))) = true
  rw [e1, inS_of h2, wholeD_int, wholeD_int, wholeD_int, wholeD_int, decide_eq_true b1, decide_eq_true (show lo ≤ farS by omega), decide_eq_true b2, decide_eq_true b3, decide_eq_true b4, decide_eq_true b5, decide_eq_true b6, decide_eq_true b7]
  rfl
theorem dial_name_of {d : PyData} (h : DialG d) : nmOk (nameOf d) ∧ 1 ≤ (nameOf d).length ∧ (nameOf d).length ≤ 8 := by
  obtain ⟨nm, way, lo, hi, up, dn, rfl, h1, h0, _⟩ := h
  exact ⟨h1, h0⟩
theorem rise_none : ∀ {ds : List PyData} {k : Nat} {p : Str}, (∀ d ∈ ds, dialD d = true) → PyProof.Rows.risingS p (ds.map nameOf) = true → (p :: ds.map nameOf).Nodup → fDial k (some p) ds = none
  | [], _, _, _, _, _ => rfl
  | d :: ds, k, p, hd, hr, nd => by
    rw [List.map_cons, PyProof.Rows.risingS, Bool.and_eq_true] at hr
    rw [List.map_cons] at nd
    rw [fDial_cons, if_pos (hd d List.mem_cons_self)]
    have e : leS (nameOf d) p = false := by
      refine lt_of_le_ne (a := p) ?_ fun z => ?_
      · have q := hr.1
        rw [PyProof.Rows.ltCps_eq] at q
        simpa using q
      · rw [List.nodup_cons] at nd
        exact nd.1 (by rw [z]; exact List.mem_cons_self)
    simp only [e]
    exact rise_none (fun x hx => hd x (List.mem_cons_of_mem _ hx)) hr.2 (List.nodup_cons.mp nd).2
theorem fd_none {ds : List PyData} (hd : ∀ d ∈ ds, dialD d = true) (hs : PyProof.Rows.sortedS (ds.map nameOf) = true) (nd : (ds.map nameOf).Nodup) : fDial 0 none ds = none := by
  cases ds with
  | nil => rfl
  | cons d ds =>
    rw [fDial_cons, if_pos (hd d List.mem_cons_self)]
    exact rise_none (fun x hx => hd x (List.mem_cons_of_mem _ hx)) hs nd
theorem fr_snoc {ns : List Str} {r : PyData} (hr : ruleD ns r = true) : ∀ {rs : List PyData} {k : Nat} {past : List PyData}, fRule ns k past rs = none → ((past ++ rs).any fun z => PyData.eqv z r) = false → fRule ns k past (rs ++ [r]) = none
  | [], k, past, _, h2 => by
    rw [List.append_nil] at h2
    rw [List.nil_append, fRule_cons, if_pos hr, h2]
    rfl
  | x :: rs, k, past, h1, h2 => by
    rw [fRule_cons] at h1
    rw [List.cons_append, fRule_cons]
    by_cases c : ruleD ns x = true
    · rw [if_pos c] at h1 ⊢
      by_cases c2 : (past.any fun z => PyData.eqv z x) = true
      · rw [if_pos c2] at h1
        cases h1
      · rw [if_neg c2] at h1 ⊢
        exact fr_snoc hr h1 (by rw [List.append_assoc]; exact h2)
    · rw [if_neg c] at h1
      cases h1
theorem put_nd {acc : List (Str × Int)} {e : Str × Int} (h : e.1 ∉ acc.map (·.1)) : putK (acc.map kvOf) (Sum.inr e.1) (.int e.2) = (acc ++ [e]).map kvOf := by
  unfold putK
  rw [if_neg, List.map_append]
  · rfl
  · rw [List.any_eq_true]
    rintro ⟨kv, hk, ek⟩
    obtain ⟨x, hx, rfl⟩ := List.mem_map.mp hk
    exact h (List.mem_map.mpr ⟨x, hx, Sum.inr.inj (of_decide_eq_true ek)⟩)
theorem merge_nd : ∀ (es acc : List (Str × Int)), ((acc ++ es).map (·.1)).Nodup → mergeK (acc.map kvOf) (es.map kvOf) = (acc ++ es).map kvOf
  | [], acc, _ => by
    rw [List.append_nil]
    rfl
  | e :: es, acc, h => by
    have h' : ((acc ++ [e] ++ es).map (·.1)).Nodup := by rw [List.append_assoc]; exact h
    have q := merge_nd es (acc ++ [e]) h'
    have hn : e.1 ∉ acc.map (·.1) := by
      intro hm
      rw [List.map_append, List.nodup_append] at h
      exact h.2.2 _ hm e.1 (by simp) rfl
    rw [List.append_assoc] at q
    rw [← put_nd hn] at q
    exact q
structure HouseG (ds rs : List PyData) : Prop where
  d1 : 1 ≤ ds.length
  d2 : ds.length ≤ 12
  r2 : rs.length ≤ 40
  dials : ∀ d ∈ ds, DialG d
  rules : ∀ r ∈ rs, RuleG (ds.map nameOf) r
  nd : (ds.map nameOf).Nodup
  fd : fDial 0 none ds = none
  fr : fRule (ds.map nameOf) 0 [] rs = none
theorem HouseG.fault {ds rs : List PyData} (h : HouseG ds rs) : faultD (.tuple [.tuple ds, .tuple rs]) = .none := by
  have e1 : formD (.tuple [.tuple ds, .tuple rs]) = true := by
    show ((decide ((1 : Int) ≤ (ds.length : Int)) && decide ((ds.length : Int) ≤ 12)) && (decide ((0 : Int) ≤ (rs.length : Int)) && decide ((rs.length : Int) ≤ 40))) = true
    have := h.d1
    have := h.d2
    have := h.r2
    rw [decide_eq_true (by omega), decide_eq_true (by omega), decide_eq_true (by omega), decide_eq_true (by omega)]
    rfl
  unfold faultD
  rw [if_pos e1]
  show (match fDial 0 none ds with
    | some k => PyData.tuple [.str "dial", .int k]
    | none => match fRule (ds.map nameOf) 0 [] rs with
      | some k => .tuple [.str "rule", .int k]
      | none => .none) = _
  rw [h.fd, h.fr]
theorem put_kv (acc : List (Str × Int)) (e : Str × Int) (Pr : Str × Int → Prop) (hm : ∀ (z : Str) (i : Int), Pr (z, i) → Pr e → Pr (z, e.2)) (ha : ∀ x ∈ acc, Pr x) (he : Pr e) : ∃ es : List (Str × Int), putK (acc.map kvOf) (Sum.inr e.1) (.int e.2) = es.map kvOf ∧ es.length ≤ acc.length + 1 ∧ 1 ≤ es.length ∧ ∀ x ∈ es, Pr x := by
  unfold putK
  by_cases c : ((acc.map kvOf).any fun kv => decide (kv.1 = Sum.inr e.1)) = true
  · rw [if_pos c]
    refine ⟨acc.map fun x => if x.1 = e.1 then (x.1, e.2) else x, ?_, by rw [List.length_map]; omega, ?_, fun x hx => ?_⟩
    · rw [List.map_map, List.map_map]
      apply List.map_congr_left
      intro x _
      show (if (kvOf x).1 = Sum.inr e.1 then ((kvOf x).1, V.int e.2) else kvOf x) = kvOf (if x.1 = e.1 then (x.1, e.2) else x)
      by_cases h : x.1 = e.1
      · rw [if_pos h, if_pos (by rw [← h]; rfl)]
        rfl
      · rw [if_neg h, if_neg (show ¬ (kvOf x).1 = Sum.inr e.1 from fun z => h (Sum.inr.inj z))]
    · rw [List.length_map]
      cases acc with
      | nil => simp at c
      | cons _ _ => simp
    · obtain ⟨y, hy, rfl⟩ := List.mem_map.mp hx
      by_cases h : y.1 = e.1
      · simp only [if_pos h]
        exact hm y.1 y.2 (ha y hy) he
      · simp only [if_neg h]
        exact ha y hy
  · rw [if_neg c]
    refine ⟨acc ++ [e], by rw [List.map_append]; rfl, by simp, by simp, fun x hx => ?_⟩
    rcases List.mem_append.mp hx with hx | hx
    · exact ha x hx
    · rw [List.mem_singleton.mp hx]
      exact he
theorem merge_kv (Pr : Str × Int → Prop) (hm : ∀ z i y j, Pr (z, i) → Pr (y, j) → Pr (z, j)) : ∀ (es acc : List (Str × Int)), (∀ x ∈ acc, Pr x) → (∀ x ∈ es, Pr x) → ∃ es' : List (Str × Int), mergeK (acc.map kvOf) (es.map kvOf) = es'.map kvOf ∧ es'.length ≤ acc.length + es.length ∧ (1 ≤ acc.length + es.length → 1 ≤ es'.length) ∧ ∀ x ∈ es', Pr x
  | [], acc, ha, _ => ⟨acc, rfl, by simp, fun h => by simpa using h, ha⟩
  | e :: es, acc, ha, he => by
    obtain ⟨a2, e1, e2, e3, e4⟩ := put_kv acc e Pr (fun z i h1 h2 => hm z i e.1 e.2 h1 h2) ha (he e List.mem_cons_self)
    obtain ⟨a3, f1, f2, f3, f4⟩ := merge_kv Pr hm es a2 e4 fun x hx => he x (List.mem_cons_of_mem _ hx)
    refine ⟨a3, ?_, by rw [List.length_cons]; omega, fun _ => f3 (by omega), f4⟩
    rw [← f1, ← e1]
    rfl
theorem Al.cons {p D : Addr} {X : List Addr} {H : Hp} {o : HO} (a : Al p X H) (h : H D = some o) : Al p (D :: X) H := ⟨List.mem_cons_of_mem _ a.mem, fun b hb => by
  rcases List.mem_cons.mp hb with e | hb
  · rw [e]; exact ⟨o, h⟩
  · exact a.alc b hb⟩
theorem pairedMap {α β γ : Type} {F : α → β → Prop} {G : α → γ → Prop} {f : β → γ} : ∀ {l₁ : List α} {l₂ : List β}, Paired F l₁ l₂ → (∀ a b, F a b → G a (f b)) → Paired G l₁ (l₂.map f)
  | _, _, .nil, _ => .nil
  | _, _, .cons a t, h => .cons (h _ _ a) (pairedMap t h)
theorem atStr {ss : List Str} {i : Nat} {z : Str} (h : ss[i]? = some z) : atI (ss.map V.str) ((i : Nat) : Int) = some (.str z) := atI_nat (by rw [List.getElem?_map, h]; rfl)
theorem atInt {is : List Int} {i : Nat} {z : Int} (h : is[i]? = some z) : atI (is.map V.int) ((i : Nat) : Int) = some (.int z) := atI_nat (by rw [List.getElem?_map, h]; rfl)
theorem zip_maps : ∀ (es : List (Str × Int)), (es.map (·.1)).zip (es.map (·.2)) = es
  | [] => rfl
  | e :: es => by rw [List.map_cons, List.map_cons, List.zip_cons_cons, zip_maps es]
theorem zip_snoc {ds : List PyData} {is : List Int} {i : Nat} {d : PyData} {v : Int} {F : PyData × Int → Prop} (hl : is.length = i) (hd : ds[i]? = some d) (h : ∀ p ∈ ds.zip is, F p) (h2 : F (d, v)) : ∀ p ∈ ds.zip (is ++ [v]), F p := by
  induction is generalizing ds i with
  | nil =>
    subst hl
    cases ds with
    | nil => simp at hd
    | cons d0 ds =>
      simp at hd
      subst hd
      intro p hp
      simp at hp
      rw [hp]
      exact h2
  | cons j is ih =>
    subst hl
    cases ds with
    | nil => simp at hd
    | cons d0 ds =>
      intro p hp
      rw [List.cons_append, List.zip_cons_cons] at hp
      rcases List.mem_cons.mp hp with e | hp
      · exact h p (by rw [e, List.zip_cons_cons]; exact List.mem_cons_self)
      · exact ih rfl (by simpa using hd) (fun q hq => h q (by rw [List.zip_cons_cons]; exact List.mem_cons_of_mem _ hq)) p hp
/-- a number of a dial's span -/
def inSpan : PyData → Int → Prop
  | .tuple [_, .int lo, .int hi, _, _, _], i => lo ≤ i ∧ i ≤ hi
  | _, _ => False
/-- a span of at most wd steps -/
def narrow (wd : Int) : PyData → Prop
  | .tuple [_, .int lo, .int hi, _, _, _] => hi - lo ≤ wd
  | _ => False
def spHouseL : Sp := fun vs H Q _ => ∃ (p c : Addr) (X : List Addr) (n wd rl : Int) (m : Nat), vs = [.ref p, .int (m : Nat), .int wd, .int rl] ∧ 0 ≤ wd ∧ wd ≤ 100 ∧ PenC H p c n ∧ Al p X H ∧ n ≤ 100000000 ∧ 1 ≤ m ∧ m ≤ 12 ∧ 0 ≤ rl ∧ rl ≤ 40 ∧
  ∀ (t h y : Addr) (ds rs : List PyData) (is : List Int) (H' : Hp), PenC H' p c (n + 5000) → Sb p H H' → H' t = some (.tup [.ref h, .ref y]) → t ≠ p → Tr (zn X H') (.ref h) (.tuple [.tuple ds, .tuple rs]) → H' y = some (.tup (is.map V.int)) → y ∉ X → is.length = ds.length → (∀ j ∈ is, -farS ≤ j ∧ j ≤ farS) → HouseG ds rs → (∀ p ∈ ds.zip is, inSpan p.1 p.2) → (∀ r ∈ rs, ruleH (lookE ((ds.map nameOf).zip is)) r = true) → ds.length = m → (0 < wd → ∀ d ∈ ds, narrow wd d) → Q (.ref t) H'
abbrev nHouse : List Str := ["_law_pen_here", "_law_many", "_law_wide", "_law_rules", "_law_names_here", "_law_lot", "_law_name", "_law_dials", "_law_dial_here", "_law_numbers", "_law_at", "_law_k", "_law_rule"]
section
variable {P : Program} {w : World} {K : PySem.W.Frag} {mg : Str → Option Value} {base : Heap}
theorem scHouseL : FnScope nHouse ["_law_pen_here", "_law_many", "_law_wide", "_law_rules"] (defScope sHouseL) := ⟨rfl, rfl, rfl, by decide +kernel, rfl, by decide +kernel, by decide +kernel⟩
set_option maxHeartbeats 2000000 in
theorem ok_houseL {f g g2 g3 g4 g5 g6 : Addr} {fd gd gd2 gd3 gd4 gd5 gd6 : FuncData} (F : Fun K "_law_house" "_law_house" sHouseL f fd) (G : FnOk P w K mg base CX0 1 g gd ["_law_pen_here", "_law_many"] spDrawC) (bG : Binds K gd ["_law_pen_here", "_law_many"] []) (kG : PySem.W.keepIn K (.ref g) = true) (mG : mg "_law_draw" = some (.ref g))
    (G2 : FnOk P w K mg base CX0 2 g2 gd2 ["_law_pen_here", "_law_some"] spPick) (bG2 : Binds K gd2 ["_law_pen_here", "_law_some"] []) (kG2 : PySem.W.keepIn K (.ref g2) = true) (mG2 : mg "_law_pick" = some (.ref g2))
    (G3 : FnOk P w K mg base CX0 3 g3 gd3 ["_law_pen_here", "_law_many"] spNames) (bG3 : Binds K gd3 ["_law_pen_here", "_law_many"] []) (kG3 : PySem.W.keepIn K (.ref g3) = true) (mG3 : mg "_law_names" = some (.ref g3))
    (G4 : FnOk P w K mg base CX0 4 g4 gd4 ["_law_pen_here", "_law_name", "_law_wide"] spDialL) (bG4 : Binds K gd4 ["_law_pen_here", "_law_name", "_law_wide"] []) (kG4 : PySem.W.keepIn K (.ref g4) = true) (mG4 : mg "_law_dial" = some (.ref g4))
    (G5 : FnOk P w K mg base CX0 3 g5 gd5 ["_law_pen_here", "_law_low", "_law_high"] spFrom) (bG5 : Binds K gd5 ["_law_pen_here", "_law_low", "_law_high"] []) (kG5 : PySem.W.keepIn K (.ref g5) = true) (mG5 : mg "_law_from" = some (.ref g5))
    (G6 : FnOk P w K mg base CX0 5 g6 gd6 ["_law_pen_here", "_law_at", "_law_slack"] spTRule) (bG6 : Binds K gd6 ["_law_pen_here", "_law_at", "_law_slack"] []) (kG6 : PySem.W.keepIn K (.ref g6) = true) (mG6 : mg "_law_true_rule" = some (.ref g6)) (B : Blt mg) :
    FnOk P w K mg base CX0 6 f fd ["_law_pen_here", "_law_many", "_law_wide", "_law_rules"] spHouseL := by
  refine F.ok scHouseL (fun vs H Q E h => ?_) (fun cdv A outer s H vs Q E hr h => ?_)
  · obtain ⟨p, c, X, n, wd, rl, m, rfl, _⟩ := h
    rfl
  obtain ⟨p, c, X, n, wd, rl, m, rfl, wd1, wd2, pen, al, hn, m1, m2, r1, r2, k⟩ := h
  have hu65 : (A.deeper (PyProof.Rows.envOfC "_law_house" (defScope sHouseL) s.heap.objs.size f cdv)).units + 65 < cLine := by
    have := hr.un
    omega
  have hr1 : Room 1 _ := hr.mono (by decide)
  have hr2 : Room 2 _ := hr.mono (by decide)
  have hr3 : Room 3 _ := hr.mono (by decide)
  have hr4 : Room 4 _ := hr.mono (by decide)
  refine ⟨_, pss_cons (ps_asg (pe_tup (pa_cons (pe_callB cr_sortedS (by rfl) B.sorted (by decide +kernel) (pa_cons (pe_call G3 hr3 rfl mG3 kG3 bG3 .nil pass0 (pa_cons (pv 0) (pa_cons (pv 1) pa_nil))) pa_nil)) (pa_cons (pe_lst pa_nil) pa_nil))) (pg_tup (by rfl) (pgs_cons (pg_name (i := 4) scHouseL.nd rfl (.inr rfl)) <| pgs_cons (pg_name (i := 5) scHouseL.nd rfl (.inl rfl)) pgs_nil))) <|
    pss_cons (ps_setLc (i := 7) (own := [("_law_name", 6)]) (g := gName 6) (by rfl) scHouseL.nd rfl rfl (sw_true rfl rfl rfl (by decide +kernel)) (pi_list (pv 4)) (blkOk_by (N := nHouse) (sc := defScope sHouseL) (by decide +kernel)) (fun _ _ _ _ _ => pg_name (i := 6) scHouseL.nd rfl (Or.inl rfl)) (fun _ _ _ _ _ => pts_nil) (fun _ _ _ _ _ => pe_call G4 hr4 rfl mG4 kG4 bG4 .nil pass0 (pa_cons (pv 0) (pa_cons (pv 6) (pa_cons (pv 2) pa_nil))))) <|
    pss_cons (ps_set (i := 9) scHouseL.nd rfl (.inr rfl) (pe_lc (own := [("_law_dial_here", 8)]) (g := gName 8) (by rfl) scHouseL.nd (pi_list (pv 7)) (blkOk_by (N := nHouse) (sc := defScope sHouseL) (by decide +kernel)) (fun _ _ _ _ _ => pg_name (i := 8) scHouseL.nd rfl (Or.inl rfl)) (fun _ _ _ _ _ => pts_nil) (fun _ _ _ _ _ => pe_call G5 hr3 rfl mG5 kG5 bG5 .nil pass0 (pa_cons (pv 0) (pa_cons (pe_ix (r := rIxT K) ix_tup (pv 8) pe_int (fun _ _ => rfl)) (pa_cons (pe_ix (r := rIxT K) ix_tup (pv 8) pe_int (fun _ _ => rfl)) pa_nil)))))) <|
    pss_cons (ps_set (i := 10) scHouseL.nd rfl (.inl rfl) (pe_callTy (call_dictP rfl) (by rfl) B.dict (by decide +kernel) (pa_cons (pe_lc (own := [("_law_k", 11)]) (g := gName 11) (by rfl) scHouseL.nd (pi_range1 (by rfl) B.range (pa_cons (pv 1) pa_nil)) (blkOk_by (N := nHouse) (sc := defScope sHouseL) (by decide +kernel)) (fun _ _ _ _ _ => pg_name (i := 11) scHouseL.nd rfl (Or.inl rfl)) (fun _ _ _ _ _ => pts_nil) (fun _ _ _ _ _ => pe_tup (pa_cons (pe_ix (r := rIxL K) ix_list (pv 4) (pv 11) (fun _ _ => rfl)) (pa_cons (pe_ix (r := rIxL K) ix_list (pv 9) (pv 11) (fun _ _ => rfl)) pa_nil)))) pa_nil))) <|
    pss_cons (ps_for PassesOwn.never rfl (pi_range1 rfl B.range (pa_cons (pe_call G hr1 rfl mG kG bG .nil pass0 (pa_cons (pv 0) (pa_cons (pe_op op_add (pv 3) pe_int) pa_nil))) pa_nil)) (pg_name (i := 11) scHouseL.nd rfl (.inl rfl))
      (pss_cons (ps_set (i := 12) scHouseL.nd rfl (.inl rfl) (pe_call G6 hr rfl mG6 kG6 bG6 .nil pass0 (pa_cons (pv 0) (pa_cons (pv 10) (pa_cons (pe_call G2 hr2 rfl mG2 kG2 bG2 .nil pass0 (pa_cons (pv 0) (pa_cons (pe_lst (pa_cons pe_int (pa_cons pe_int (pa_cons pe_int (pa_cons pe_int pa_nil))))) pa_nil))) pa_nil)))))
      (pss_one (ps_if (pt_cmpR (op_notInD hu65) (pv 12) (pv 5) (by rfl)) (pss_one (ps_expr (pe_bm PySem.F.plainAttrs_list PySem.F.slot_list_append PySem.F.type_list_append mt_append (pv 5) (pa_cons (pv 12) pa_nil)))) pss_nil)))) <|
    pss_one (ps_ret (pe_tup (pa_cons (pe_tup (pa_cons (pe_callTy call_tuple_of (by rfl) B.tuple (by decide +kernel) (pa_cons (pv 7) pa_nil)) (pa_cons (pe_callTy call_tuple_of (by rfl) B.tuple (by decide +kernel) (pa_cons (pv 5) pa_nil)) pa_nil))) (pa_cons (pe_callTy call_tuple_of (by rfl) B.tuple (by decide +kernel) (pa_cons (pv 9) pa_nil)) pa_nil)))), ?_⟩
  have fg := farG
  refine ⟨_, rfl, _, rfl, p, c, n, m, rfl, pen, by omega, m1, m2, fun l ss0 H1 pen1 sb1 nl hl hlen0 hok0 hok1 nd0 => ?_⟩
  refine ⟨l, ss0, rfl, SqL.of hl, by omega, fun ss a perm hsrt na => ?_⟩
  have sa := sameNew na (.lst (ss.map V.str))
  have hlen : ss.length = m := by rw [perm.length_eq]; exact hlen0
  have hok : ∀ z ∈ ss, nmOk z := fun z hz => hok0 z (perm.mem_iff.mp hz)
  have hok8 : ∀ z ∈ ss, 1 ≤ z.length ∧ z.length ≤ 8 := fun z hz => hok1 z (perm.mem_iff.mp hz)
  have ndss : ss.Nodup := perm.nodup_iff.mpr nd0
  refine ⟨by show 0 ≤ sizeLine; decide, fun L nL => ?_⟩
  have sL := sameNew nL (.lst [])
  have nL1 : H1 L = none := sa.free nL
  have Lp := pen1.newp nL1
  have Lc := pen1.newc nL1
  have nLH : H L = none := sb1.free Lp nL1
  refine ⟨by show 2 ≤ sizeLine; decide, fun T nT => ?_⟩
  have sT := sameNew nT (.tup [.ref a, .ref L])
  refine ⟨T, _, rfl, SqT.of upd_same, rfl, _, _, rfl, _, _, rfl, rfl, ?_⟩
  have pen2 := ((pen1.same sa).same sL).same sT
  have sb2 : Sb p H _ := ((sb1.trans (Sb.same sa)).trans (Sb.same sL)).trans (Sb.same sT)
  have ha2 := sT _ _ (sL _ _ (upd_same (H := H1) (a := a) (o := .lst (ss.map V.str))))
  have hL2 := sT _ _ (upd_same (H := L2.upd H1 a (.lst (ss.map V.str))) (a := L) (o := .lst []))
  have al2 := (((al.sb sb1 pen1).same sa).new (o := .lst []) nL).same sT
  generalize L2.upd (L2.upd (L2.upd H1 a (.lst (ss.map V.str))) L (.lst [])) T (.tup [.ref a, .ref L]) = H2 at pen2 sb2 ha2 hL2 al2
  have ap := pen2.lstp ha2
  clear sa sL sT nT na nL nL1 hl pen1 sb1 nl hlen0 hok0 hok1 nd0 perm
  -- the dials
  refine ⟨_, rfl, a, rfl, ⟨_, SqL.of ha2⟩, fun D hD => lc_list (K := K) (a := a) (xs := ss.map V.str) (fun i H3 => ∃ (xs : List V) (ds : List PyData), H3 D = some (.lst xs) ∧ TrAll (zn (D :: L :: X) H3) xs ds ∧ ds.length = i ∧ (∀ d ∈ ds, DialG d ∧ (0 < wd → narrow wd d)) ∧ ds.map nameOf = ss.take i ∧ PenC H3 p c (n + 30 + 40 * i) ∧ Sb p H2 H3)
    ⟨[], [], upd_same, .nil, rfl, fun _ h => absurd h (by simp), rfl, (pen2.same (sameNew hD _)).mono (by omega), Sb.same (sameNew hD _)⟩ (fun i H3 _ ⟨_, _, _, _, _, _, _, _, s3⟩ => SqL.of (s3.to ap ha2)) ?_ ?_⟩
  · rintro i y H3 hy ⟨xs, ds, e1, e2, e3, e4, e4n, pen3, sb3⟩
    have Dp := pen2.newp hD
    have Dc := pen2.newc hD
    rw [List.getElem?_map] at hy
    obtain ⟨z, hz, rfl⟩ := Option.map_eq_some_iff.mp hy
    have hil : i < ss.length := (List.getElem?_eq_some_iff.mp hz).1
    have al3 := (al2.sb sb3 pen3).cons e1
    refine ⟨rfl, _, rfl, _, rfl, _, rfl, p, c, _, wd, z, rfl, wd1, wd2, pen3, by omega, fun t lo hi up dn way H4 pen4 sb4 nt ht b1 b2 b3 b4 b5 b6 b7 b8 b9 => ?_⟩
    have xl := e2.length
    have tZ := al3.out nt
    have tD : t ≠ D := fun z => tZ (by rw [z]; exact List.mem_cons_self)
    refine ⟨xs, sb4.to Dp e1, small1000 (by omega), xs ++ [.ref t], ds ++ [.tuple [.str z, .int lo, .int hi, .str way, .int up, .int dn]], upd_same, .snoc (e2.same ((zn_sb sb4 al3.mem).trans (zn_upd List.mem_cons_self))) (.tup (.inl ?_) (.cons (.str _) (.cons (.int _) (.cons (.int _) (.cons (.str _) (.cons (.int _) (.cons (.int _) .nil))))))), by simp [e3], fun d hd => ?_, ?_, ?_, (sb3.trans sb4).new hD Dp _⟩
    · rw [zn_out tZ, upd_ne tD]
      exact ht
    · rcases List.mem_append.mp hd with hd | hd
      · exact e4 d hd
      · rw [List.mem_singleton.mp hd]
        exact ⟨⟨z, way, lo, hi, up, dn, rfl, hok z (List.mem_of_getElem? hz), hok8 z (List.mem_of_getElem? hz), b4, b1, b2, b3, b5, b6, b7, b8⟩, b9⟩
    · rw [List.map_append, e4n, take_more hz]
      rfl
    · exact (pen4.upd Dp Dc _).mono (by omega)
  rintro H3 ⟨xs, ds, e1, e2, e3, e4', e4n, pen3, sb3⟩
  have e4 : ∀ d ∈ ds, DialG d := fun d hd => (e4' d hd).1
  have e4w : 0 < wd → ∀ d ∈ ds, narrow wd d := fun w d hd => (e4' d hd).2 w
  clear e4'
  have Dp := pen2.newp hD
  rw [List.length_map] at e3 pen3 e4n
  rw [List.take_length] at e4n
  have xl := e2.length
  have al3 := al2.sb sb3 pen3
  have e2 := e2.same zn_drop
  have DL : D ≠ L := fun z => by rw [z, hL2] at hD; cases hD
  have hL3 := sb3.to Lp hL2
  have ha3 := sb3.to ap ha2
  have sb3' := sb2.trans sb3
  have pen3 : PenC H3 p c (n + 510) := pen3.mono (by omega)
  -- the numbers
  refine ⟨_, rfl, D, rfl, ⟨_, SqL.of e1⟩, fun D2 hD2 => lc_list (K := K) (a := D) (xs := xs) (fun i H4 => ∃ is : List Int, H4 D2 = some (.lst (is.map V.int)) ∧ is.length = i ∧ ((∀ j ∈ is, -farS ≤ j ∧ j ≤ farS) ∧ ∀ p ∈ ds.zip is, inSpan p.1 p.2) ∧ PenC H4 p c (n + 510 + 8 * i) ∧ Sb p H3 H4)
    ⟨[], upd_same, rfl, ⟨fun _ h => absurd h (by simp), fun _ h => absurd h (by simp)⟩, (pen3.same (sameNew hD2 _)).mono (by omega), Sb.same (sameNew hD2 _)⟩ (fun i H4 _ ⟨_, _, _, _, _, s4⟩ => SqL.of (s4.to Dp e1)) ?_ ?_⟩
  · rintro i y H4 hy ⟨is, f1, f2, ⟨f3, f4⟩, pen4, sb4⟩
    have D2p := pen3.newp hD2
    have D2c := pen3.newc hD2
    obtain ⟨d, hd, tr⟩ := e2.get hy
    have hil : i < xs.length := (List.getElem?_eq_some_iff.mp hy).1
    obtain ⟨b, nm, way, lo, hi, up, dn, rfl, hb, q1, q2, q3, _, ed⟩ := dial_tup (tr.same (zn_sb sb4 al3.mem)) (e4 d (List.mem_of_getElem? hd))
    have hb := (hb.map (zn_le _))
    refine ⟨rfl, _, rfl, _, rfl, b, _, _, _, rfl, rfl, (.inl hb), (rfl : atI [V.str nm, V.int lo, V.int hi, V.str way, V.int up, V.int dn] 1 = some (.int lo)), _, rfl, b, _, _, _, rfl, rfl, (.inl hb), (rfl : atI [V.str nm, V.int lo, V.int hi, V.str way, V.int up, V.int dn] 2 = some (.int hi)), p, c, _, lo, hi, rfl, pen4, by omega, q2, fun v H5 v1 v2 pen5 sb5 => ?_⟩
    refine ⟨_, sb5.to D2p f1, small1000 (by rw [List.length_map]; omega), is ++ [v], by rw [upd_same, List.map_append]; rfl, by simp [f2], ⟨fun j hj => ?_, zip_snoc f2 hd f4 (by rw [ed]; exact ⟨v1, v2⟩)⟩, (pen5.upd D2p D2c _).mono (by omega), (sb4.trans sb5).new hD2 D2p _⟩
    rcases List.mem_append.mp hj with hj | hj
    · exact f3 j hj
    · rw [List.mem_singleton.mp hj]
      omega
  rintro H4 ⟨is, f1, f2, ⟨f3, f4⟩, pen4, sb4⟩
  have D2p := pen3.newp hD2
  have al4 := al3.sb sb4 pen4
  have e2 := e2.same (zn_sb sb4 al3.mem)
  have hL4 := sb4.to Lp hL3
  have ha4 := sb4.to ap ha3
  have hD4 := sb4.to Dp e1
  have D2L : D2 ≠ L := fun z => by rw [z, hL3] at hD2; cases hD2
  have sb4' := sb3'.trans sb4
  have pen4 : PenC H4 p c (n + 610) := pen4.mono (by omega)
  -- the numbers by names
  refine ⟨_, rfl, _, rfl, by omega, by omega, fun D3 hD3 => ?_⟩
  rw [Int.toNat_natCast]
  refine lc_range (lo := 0) (n := m) (fun i H5 => ∃ (ps : List Addr) (es : List (Str × Int)), H5 D3 = some (.lst (ps.map V.ref)) ∧ Paired (fun q e => H5 q = some (.tup [.str e.1, .int e.2])) ps es ∧ es.length = i ∧ (∀ e ∈ es, nmOk e.1 ∧ -farS ≤ e.2 ∧ e.2 ≤ farS) ∧ (es.map (·.1) = ss.take i ∧ es.map (·.2) = is.take i) ∧ Same H4 H5)
    ⟨[], [], upd_same, .nil, rfl, fun _ h => absurd h (by simp), ⟨rfl, rfl⟩, sameNew hD3 _⟩ ?_ ?_
  · rintro i H5 hi ⟨ps, es, g1, g2, g3, g4, ⟨g4n, g4i⟩, s5⟩
    rw [Int.zero_add]
    have hz : ss[i]? = some ss[i] := List.getElem?_eq_getElem (by omega)
    have hj : is[i]? = some is[i] := List.getElem?_eq_getElem (by omega)
    have pl := g2.length
    refine ⟨rfl, _, rfl, _, rfl, a, _, _, _, rfl, rfl, SqL.of (s5 _ _ ha4), atStr hz, _, rfl, _, rfl, D2, _, _, _, rfl, rfl, SqL.of (s5 _ _ f1), atInt hj, by show 2 ≤ sizeLine; decide, fun t ht => ?_⟩
    have st := sameNew ht (.tup [.str ss[i], .int is[i]])
    have tD : t ≠ D3 := fun z => by rw [z, g1] at ht; cases ht
    refine ⟨_, st _ _ g1, small1000 (by rw [List.length_map]; omega), ps ++ [t], es ++ [(ss[i], is[i])], by rw [upd_same, List.map_append]; rfl, .snoc (L2.Paired.mapP g2 fun q e h => ?_) ?_, by simp [g3], fun e he => ?_, ⟨by rw [List.map_append, g4n, take_more hz]; rfl, by rw [List.map_append, g4i, take_more hj]; rfl⟩, fun b o e => ?_⟩
    · have qD : q ≠ D3 := ne_of h g1 (by intro z; cases z)
      rw [upd_ne qD]
      exact st _ _ h
    · rw [upd_ne tD, upd_same]
    · rcases List.mem_append.mp he with he | he
      · exact g4 e he
      · rw [List.mem_singleton.mp he]
        exact ⟨hok _ (List.mem_of_getElem? hz), f3 _ (List.mem_of_getElem? hj)⟩
    · rw [upd_ne (ne_of_none e hD3)]
      exact st _ _ (s5 _ _ e)
  rintro H5 ⟨ps, es, g1, g2, g3, g4, ⟨g4n, g4i⟩, s5⟩
  refine ⟨D3, ps, es.map kvOf, rfl, SqL.of g1, pairedMap g2 fun q e h => SqT.of h, fun dd ndd => ?_⟩
  have eks : es.map (·.1) = ss := by rw [g4n, ← hlen, List.take_length]
  obtain ⟨es', e9, em, el1, el2, el3⟩ : ∃ es' : List (Str × Int), es' = es ∧ mergeK [] (es.map kvOf) = es'.map kvOf ∧ es'.length ≤ es.length ∧ (1 ≤ es.length → 1 ≤ es'.length) ∧ ∀ e ∈ es', nmOk e.1 ∧ -farS ≤ e.2 ∧ e.2 ≤ farS :=
    ⟨es, rfl, merge_nd es [] (by rw [List.nil_append, eks]; exact ndss), Nat.le_refl _, fun h => h, g4⟩
  have eks' : es'.map (·.1) = ss := by rw [e9]; exact eks
  have eki : es.map (·.2) = is := by rw [g4i, List.take_of_length_le (by omega)]
  have ezip : es' = ss.zip is := by rw [e9, ← eks, ← eki, zip_maps]
  rw [em]
  have sd := s5.trans (sameNew ndd (.dK (es'.map kvOf)))
  have pen6 := pen4.same sd
  have hL6 := sd _ _ hL4
  have hD6 := sd _ _ hD4
  have hN6 := sd _ _ f1
  have al6 := al4.same sd
  have e2 := e2.same (zn_mono sd)
  have sb6 := sb4'.trans (Sb.same sd)
  have hd6 : L2.upd H5 dd (.dK (es'.map kvOf)) dd = some (.dK (es'.map kvOf)) := upd_same
  generalize L2.upd H5 dd (.dK (es'.map kvOf)) = H6 at pen6 hL6 hD6 hN6 al6 e2 sb6 hd6
  clear sd s5 g1 g2 g4 g4n g4i eki e9 sb4 sb3 ha4 ha3 ha2 hD4 hL4 hL3 hL2 pen4 pen3 pen2 al4 al3 al2 f1 sb4' sb3' sb2 e1 hD3 ndd em
  have dp : dd ≠ p := fun z => by
    obtain ⟨_, _, _, hp, _⟩ := pen6
    rw [z, hp.at_] at hd6
    have hd := HO.dK.inj (Option.some.inj hd6)
    cases es' with
    | nil => have := el2 (by omega); simp at this
    | cons e es =>
      simp only [penK, List.map_cons, kvOf, List.cons.injEq, Prod.mk.injEq] at hd
      exact nomatch hd.1.2
  have dL : dd ≠ L := ne_of hd6 hL6 (by intro z; cases z)
  -- the rules
  refine ⟨_, rfl, _, rfl, _, _, rfl, rfl, p, c, _, _, rfl, pen6, by omega, by omega, by omega, fun nr H7 w1 w2 pen7 sb7 => ⟨_, rfl, by omega, by omega, ?_⟩⟩
  have hL7 := sb7.to Lp hL6
  have hD7 := sb7.to Dp hD6
  have hN7 := sb7.to D2p hN6
  have hd7 := sb7.to dp hd6
  have al7 := al6.sb sb7 pen7
  have e2 := e2.same (zn_sb sb7 al6.mem)
  have sb7' := sb6.trans sb7
  refine for_range (n := nr.toNat) (fun i σ H8 => ∃ (v11 v12 : Option V) (ys : List V) (rs : List PyData), σ = [some (.ref p), some (.int (m : Nat)), some (.int wd), some (.int rl), some (.ref a), some (.ref L), none, some (.ref D), none, some (.ref D2), some (.ref dd), v11, v12] ∧ H8 L = some (.lst ys) ∧ TrAll (zn (L :: X) H8) ys rs ∧ rs.length ≤ i ∧ (∀ r ∈ rs, RuleG ss r ∧ ruleH (lookE es') r = true) ∧ fRule ss 0 [] rs = none ∧ PenC H8 p c (n + 611 + 101 * i) ∧ ∀ b o, b ≠ p → b ≠ L → H7 b = some o → H8 b = some o)
    ⟨none, none, [], [], rfl, hL7, .nil, Nat.le_refl _, fun _ h => absurd h (by simp), rfl, pen7.mono (by omega), fun _ _ _ _ e => e⟩ ?_ ?_
  · rintro i σ H8 hi ⟨v11, v12, ys, rs, rfl, e1, f2', e3, e5, e6', pen8, fr⟩
    have al8 : Al p (L :: X) H8 := ⟨al7.mem, fun b hb => by
      by_cases bp : b = p
      · rw [bp]
        obtain ⟨kv, h⟩ := pen8.atp
        exact ⟨_, h⟩
      · by_cases bL : b = L
        · rw [bL]
          exact ⟨_, e1⟩
        · obtain ⟨o, ho⟩ := al7.alc b hb
          exact ⟨o, fr b o bp bL ho⟩⟩
    refine ⟨_, rfl, _, rfl, _, rfl, by show 4 ≤ sizeLine; decide, fun e he => .inl ⟨p, c, e, _, _, rfl, pen8.same (sameNew he _), by omega, upd_same, by simp, by simp, fun x H9 hx pen9 sb9' => ?_⟩⟩
    have sb9 := (Sb.same (sameNew he _)).trans sb9'
    obtain ⟨sl, rfl, sl1, sl2⟩ : ∃ sl : Int, x = .int sl ∧ 0 ≤ sl ∧ sl ≤ 5 := by
      simp only [List.mem_cons, List.not_mem_nil, or_false] at hx
      rcases hx with rfl | rfl | rfl | rfl <;> exact ⟨_, rfl, by decide, by decide⟩
    refine ⟨p, c, dd, L :: X, _, sl, es', rfl, pen9, al8.sb sb9 pen9, by omega, sb9.to dp (fr _ _ dp dL hd7), el2 (by omega), by omega, el3, by rw [eks']; exact ndss, sl1, sl2, fun t r H10 pen10 sb10 tr rg rh => ?_⟩
    rw [eks'] at rg
    have sbA := sb9.trans sb10
    have hL10 := sbA.to Lp e1
    have f3' := f2'.same (zn_sb sbA al8.mem)
    have rl' := f3'.length
    have fr10 : ∀ b o, b ≠ p → b ≠ L → H7 b = some o → H10 b = some o := fun b o h1 h2 e => sbA.to h1 (fr b o h1 h2 e)
    have wl : (PyData.list rs).canLay0 = true := by simpa only [PyData.canLay0] using lay_all fun d hd => (e5 d hd).1.lay
    refine ⟨_, rfl, _, rfl, r, rs, (tr.same zn_le).dp (noDict_of rg.lay), Tr.dp (.lst hL10 (f3'.same zn_le)) (noDict_of wl), shaped_of rg.lay (by have := rg.depth; omega), shaped_of wl (by
      have := depth_all (n := 2) fun d hd => (e5 d hd).1.depth
      simp only [PyData.depth]
      omega), _, rfl, ?_⟩
    refine ite2 (fun c7 => ?_) (fun _ => ?_)
    · refine ⟨_, rfl, .inl ⟨rfl, _, SqL.of hL10⟩, _, rfl, L, _, _, rfl, rfl, hL10, small1000 (by omega), ?_⟩
      refine ⟨_, _, ys ++ [.ref t], rs ++ [r], rfl, upd_same, (f3'.snoc tr).same (zn_upd List.mem_cons_self), by simp; omega, fun d hd => ?_, fr_snoc rg.rule e6' (by simpa using c7), (pen10.upd Lp Lc _).mono (by omega), fun b o h1 h2 e => by rw [upd_ne h2]; exact fr10 b o h1 h2 e⟩
      rcases List.mem_append.mp hd with hd | hd
      · exact e5 d hd
      · rw [List.mem_singleton.mp hd]
        exact ⟨rg, rh⟩
    · exact ⟨_, _, ys, rs, rfl, hL10, f3', by omega, e5, e6', pen10.mono (by omega), fr10⟩
  rintro σ H8 ⟨v11, v12, ys, rs, rfl, e1, f2', e3, e5, e6', pen8, fr⟩
  have hD8 := fr _ _ Dp DL hD7
  have hN8 := fr _ _ D2p D2L hN7
  have e2 : TrAll (zn X H8) xs ds := (e2.same fun b o e => by
    obtain ⟨h1, h2⟩ := zn_some e
    rw [zn_out h1]
    exact fr b o (fun z => h1 (by rw [z]; exact al7.mem)) (fun z => h1 (by rw [z]; exact List.mem_cons_self)) h2).same zn_drop
  have f2' := f2'.same zn_drop
  have sb8 : Sb p H H8 := .of fun b o hb e => fr b o hb (ne_of_none e nLH) (sb7'.to hb e)
  have al8 := al.sb sb8 pen8
  refine ⟨_, rfl, D, _, rfl, .inl ⟨SqL.of hD8, fun t1 n1 => ?_⟩⟩
  have s1 := sameNew n1 (.tup xs)
  refine ⟨_, rfl, L, _, rfl, .inl ⟨SqL.of (s1 _ _ e1), fun t2 n2 => ?_⟩⟩
  have s2 := sameNew n2 (.tup ys)
  refine ⟨by show 2 ≤ sizeLine; decide, fun th nth => ?_⟩
  have s3 := sameNew nth (.tup [.ref t1, .ref t2])
  refine ⟨_, rfl, D2, _, rfl, .inl ⟨SqL.of (s3 _ _ (s2 _ _ (s1 _ _ hN8))), fun t3 n3 => ?_⟩⟩
  have s4 := sameNew n3 (.tup (is.map V.int))
  refine ⟨by show 2 ≤ sizeLine; decide, fun t nt => ?_⟩
  have s5 := sameNew nt (.tup [.ref th, .ref t3])
  have sA := s1.trans (s2.trans (s3.trans (s4.trans s5)))
  have x1 := al8.out n1
  have x2 := (al8.same s1).out n2
  have x3 := ((al8.same s1).same s2).out nth
  have q1 := s5 _ _ (s4 _ _ (s3 _ _ (s2 _ _ (upd_same (H := H8) (a := t1) (o := .tup xs)))))
  have q2 := s5 _ _ (s4 _ _ (s3 _ _ (upd_same (H := L2.upd H8 t1 (.tup xs)) (a := t2) (o := .tup ys))))
  have q3 := s5 _ _ (s4 _ _ (upd_same (H := L2.upd (L2.upd H8 t1 (.tup xs)) t2 (.tup ys)) (a := th) (o := .tup [.ref t1, .ref t2])))
  have x4 := (((al8.same s1).same s2).same s3).out n3
  have q4 := s5 _ _ (upd_same (H := L2.upd (L2.upd (L2.upd H8 t1 (.tup xs)) t2 (.tup ys)) th (.tup [.ref t1, .ref t2])) (a := t3) (o := .tup (is.map V.int)))
  refine k t th t3 ds rs is _ ((pen8.same sA).mono (by omega)) (sb8.trans (Sb.same sA)) upd_same (((((pen8.same s1).same s2).same s3).same s4).newp nt) (.tup (.inl (by rw [zn_out x3]; exact q3)) (.cons (.tup (.inl (by rw [zn_out x1]; exact q1)) (e2.same (zn_mono sA))) (.cons (.tup (.inl (by rw [zn_out x2]; exact q2)) (f2'.same (zn_mono sA))) .nil))) q4 x4 (by omega) f3 ⟨by omega, by omega, by omega, e4, by rw [e4n]; exact fun r hr => (e5 r hr).1, by rw [e4n]; exact ndss, fd_none (fun d hd => dial_ok (e4 d hd)) (by rw [e4n]; exact hsrt) (by rw [e4n]; exact ndss), by rw [e4n]; exact e6'⟩ f4 (by rw [e4n, ← ezip]; exact fun r hr => (e5 r hr).2) (by omega) e4w
end
end Pk
namespace Pk
open PySem L2
/-- what _law_odd picks from -/
def odds : List PyData :=
  [.none, .bool true, .bool false, .int 0, .int 1, .int (-1), .int (10 ^ 18), .int (10 ^ 20), .int (-10 ^ 59), .str "", .str "0", .str "a", .str "least", .tuple [], .tuple [.int 0], .list [], .list [.int 0], .dict []] ++
  [.tuple [.none], .tuple [.str "a", .int 0], .tuple [.str "a", .str "least", .int 0], .tuple [.tuple [.str "a", .str "least", .int 0]], .list [.tuple [.str "a", .str "least", .int 0]], .dict [(.str "a", .int 0)], .tuple [.tuple []]] ++
  [.tuple [.tuple [], .tuple []], .tuple [.str "one", .tuple [.str "a", .str "least", .int 0], .tuple [.str "a", .str "most", .int 0]], .tuple [.str "off", .str "a", .str "b", .int 0]]
theorem odds_ok : (odds.all fun d => lv 0 d && decide (d.bulk ≤ 30) && decide (d.depth ≤ 3)) = true := by decide +kernel
theorem odd_lv {d : PyData} (h : d ∈ odds) : lv 0 d = true ∧ d.bulk ≤ 30 ∧ d.depth ≤ 3 := by
  have q := List.all_eq_true.mp odds_ok d h
  simp only [Bool.and_eq_true, decide_eq_true_eq] at q
  exact ⟨q.1.1, q.1.2, q.2⟩
theorem newP_zn {p : Addr} {X : List Addr} {H H' : Hp} (a : Al p X H) : Same (newP H H') (zn X H') := fun b o e => by
  obtain ⟨h1, h2⟩ := newP_some e
  rw [zn_out (a.out h1)]
  exact h2
def spOddL : Sp := fun vs H Q _ => ∃ (p c : Addr) (X : List Addr) (n : Int), vs = [.ref p] ∧ PenC H p c n ∧ Al p X H ∧ n ≤ 900000000 ∧
  ∀ (x : V) (d : PyData) (H' : Hp), d ∈ odds → Tr (zn X H') x d → PenC H' p c (n + 1) → Sb p H H' → Q x H'
theorem call_isTL {X : Cx} : CallR X (.builtin "isinstance") (fun xs H Q => ∃ (x : V) (tp : Addr) (d : PyData), xs = [x, .ref tp] ∧ H tp = some (.tup [.ty "tuple", .ty "list"]) ∧ Tr H x d ∧ Q (.bl (isTup d || isLst d)) H) := by
  intro pz s σ H xs us Q I r h
  obtain ⟨x, tp, d, rfl, ht, t, q⟩ := h
  refine call_isiT pz s σ H _ us Q I r ⟨x, tp, _, _, [.type "tuple", .type "list"], _, rfl, ht, .cons (.ty _) (.cons (.ty _) .nil), t.ty, ?_, q⟩
  have h2 : PySem.W.kitAny X.K (.type (tyD d)) [.type "list"] = some (isLst d) := kitAny_cons (b := isLst d) (r := isLst d) (kit_ty (kL d)) (fun e => by rw [e]; exact kitAny_nil) (fun e => e)
  cases c : isTup d with
  | true => exact kitAny_cons (b := true) (r := true) (by rw [← c]; exact kit_ty (kT d)) (fun e => by cases e) (fun _ => rfl)
  | false => exact kitAny_cons (b := false) (r := isLst d) (by rw [← c]; exact kit_ty (kT d)) (fun _ => h2) (fun e => by cases e)
/-! ### texts -/
theorem ofS_le (s : String) : ∀ c ∈ (Str.ofString s).cps.toList, c ≤ 1114112 := fun c hc => by
  rw [PyProof.Rows.signs_ofString] at hc
  obtain ⟨ch, _, rfl⟩ := List.mem_map.mp hc
  have h := ch.valid
  have h2 : ch.val.toNat < 1114112 := by
    rcases h with h | ⟨_, h⟩
    · omega
    · exact h
  exact Nat.le_of_lt h2
theorem shifted_le {M : Nat} : ∀ {one : List (Nat × Nat × Nat)} {c v : Nat}, (one.all fun e => decide (e.2.2 ≤ M)) = true → Unicode.shifted one c = some v → v ≤ M + c
  | [], c, v, _, h => by cases h
  | (a, b, t) :: rest, c, v, hm, h => by
    rw [List.all_cons, Bool.and_eq_true, decide_eq_true_eq] at hm
    unfold Unicode.shifted at h
    split at h
    · cases h
    · split at h
      · cases h
        have h3 : t ≤ M := hm.1
        omega
      · exact shifted_le hm.2 h
theorem lookup_all {M : Nat} : ∀ {sv : List (Nat × List Nat)} {c : Nat} {cs : List Nat}, (sv.all fun e => e.2.all fun x => decide (x ≤ M)) = true → sv.lookup c = some cs → ∀ x ∈ cs, x ≤ M
  | [], c, cs, _, h => by cases h
  | (a, l) :: rest, c, cs, hm, h => by
    rw [List.all_cons, Bool.and_eq_true] at hm
    rw [List.lookup_cons] at h
    split at h
    · cases h
      intro x hx
      have := List.all_eq_true.mp hm.1 x hx
      exact of_decide_eq_true this
    · exact lookup_all hm.2 h
theorem tabs1 : (UnicodeData.oneUpper.all fun e => decide (e.2.2 ≤ 1200000)) = true := by decide +kernel
theorem tabs2 : (UnicodeData.severalUpper.all fun e => e.2.all fun x => decide (x ≤ 1200000)) = true := by decide +kernel
theorem upperOf_le {c x : Nat} (h : x ∈ Unicode.upperOf c) : x ≤ 1200000 + c := by
  unfold Unicode.upperOf Unicode.image at h
  split at h
  · rename_i cs e
    have := lookup_all tabs2 e x h
    omega
  · cases e : Unicode.shifted UnicodeData.oneUpper c with
    | none =>
      rw [e] at h
      have : x = c := by simpa using h
      omega
    | some v =>
      rw [e] at h
      have : x = v := by simpa using h
      rw [this]
      exact shifted_le tabs1 e
theorem upper_mem {z : Str} {x : Nat} (h : x ∈ (Txt.upper z).cps.toList) : ∃ c ∈ z.cps.toList, x ≤ 1200000 + c := by
  unfold Txt.upper at h
  have h : x ∈ ((z.cps.mapIdx fun _ c => (Unicode.upperOf c).toArray).flatten).toList := h
  rw [Array.mem_toList_iff, Array.mem_flatten] at h
  obtain ⟨as, h1, h2⟩ := h
  rw [Array.mem_mapIdx] at h1
  obtain ⟨i, hi, rfl⟩ := h1
  exact ⟨z.cps[i], by simp, upperOf_le (by simpa using h2)⟩
section
variable {P : Program} {w : World} {K : PySem.W.Frag} {mg : Str → Option Value} {base : Heap}
end
end Pk
section
set_option maxHeartbeats 1000000
/-! text * int. -/
namespace Pk
open PySem PySem.Spec PyProof.Rows L2
theorem op_mulS {X : Cx} : OpR X (binaryOp .Mult) (fun x y H Q => ∃ z n, x = .str z ∧ y = .int n ∧ MulOk z n ∧ Q (.str (Txt.mul z n)) H) := by
  intro pins s σ H x y v u Q I rx ry h
  obtain ⟨z, n, rfl, rfl, hz, q⟩ := h
  obtain ⟨t, rfl⟩ := rx
  obtain ⟨t', rfl⟩ := ry
  exact PySem.SB.mul hz fun t' tk => ⟨.str (Txt.mul z n), H, I.tok _, ⟨_, rfl⟩, q⟩
end Pk
end
/-! Tuples that are known to have no dict of their own: tuple(list), a display, dict(x) of them; d.update(e). -/
namespace Pk
open PySem PySem.Spec PyProof.Rows L2
/-- a tuple known to the object, which has no dict of its own -/
def FrzT (H : Hp) (a : Addr) (xs : List V) : Prop := ∃ o : Obj, H a = some (.frz o (.tup xs)) ∧ o.dict = none
theorem FrzT.rd {H : Hp} {a : Addr} {xs : List V} (h : FrzT H a xs) : Rd H a (.tup xs) := let ⟨o, e, _⟩ := h; .inr ⟨o, e⟩
theorem FrzT.map {H H' : Hp} {a : Addr} {xs : List V} (f : ∀ o, H a = some o → H' a = some o) (h : FrzT H a xs) : FrzT H' a xs := let ⟨o, e, d⟩ := h; ⟨o, f _ e, d⟩
section
variable {X : Cx}
theorem call_tuple_frz : CallR X (.type "tuple") (fun xs H Q => ∃ p ys, xs = [.ref p] ∧ SqL X.K H p ys ∧ ∀ l o, H l = none → o.dict = none → Q (.ref l) (upd H l (.frz o (.tup ys)))) := by
  intro pins s σ H xs us Q I r h
  obtain ⟨p, ys, rfl, hq, q⟩ := h
  obtain ⟨u, rfl, rx⟩ := vals1 r
  cases rx
  obtain ⟨its, r', pl, hz⟩ := I.list hq
  have hlen := r'.length
  refine call_tuple_list pl.isList (fun h' kp => ?_) (by simp only [List.size_toArray] <;> omega)
  have I1 : L2.Inv X pins σ H { s with heap := h' } := I.kept (t' := s.toks) kp
  have I2 : L2.Inv X pins σ (upd H h'.objs.size (.frz { cls := .type "tuple", data := .seq its.toArray } (.tup ys))) { s with heap := h'.push { cls := .type "tuple", data := .seq its.toArray } } :=
    I1.laid (t' := s.toks) (fun b o e => Heap.get?_push_of_some _ e) (Nat.le_refl _) ⟨Heap.get?_push_size _ rfl, hz, its, r', IsTup.new _ _⟩
  exact ⟨.ref h'.objs.size, _, I2, rfl, q _ _ (I1.hok.fresh (Nat.le_refl _)) rfl⟩
def tTupF (t : TA) : TE := fun σ H Q => t σ H fun xs H1 => xs.length ≤ sizeLine ∧ ∀ p o, H1 p = none → o.dict = none → Q (.ref p) (upd H1 p (.frz o (.tup xs)))
theorem pe_tupF {es : List Expr} {t : TA} {x1 : Nat} {pos : Pos} (h : PA X es t) : PE X (.Tuple es x1 pos) (tTupF t) := by
  refine ⟨fun pins s σ H Q I hq => ?_⟩
  refine wpAny_Tuple_spliced (thn (h.run pos pins s σ H _ I hq) fun us s1 ⟨xs, H1, I1, r, z, q⟩ => ⟨by rw [← r.length]; exact z, ?_⟩)
  have hf : H1 s1.heap.objs.size = none := I1.hok.fresh (Nat.le_refl _)
  refine ⟨.ref s1.heap.objs.size, upd H1 s1.heap.objs.size (.frz { cls := .type "tuple", data := .seq us.toArray } (.tup xs)), I1.laid (t' := s1.toks) (fun b u e => Heap.get?_push_of_some _ e) (Nat.le_refl _) ?_, rfl, q _ _ hf rfl⟩
  exact ⟨Heap.get?_push_size _ rfl, z, us, r, ⟨_, Heap.get?_push_size _ rfl, rfl, _, rfl⟩⟩
/-- what stands in the pairs -/
theorem pairs_at {pins : List (Addr × Obj)} {σ : L2.St} {H : Hp} {s : Shared} (I : L2.Inv X pins σ H s) : ∀ {ps : List Addr} {kvs : List (Key × V)}, Paired (fun p kv => SqT X.K H p [kV kv.1, kv.2]) ps kvs →
    ∃ (prs : List (Key × Value)) (us : List Value), KV kvs prs ∧ us.length = prs.length ∧ prs.length = ps.length ∧ ∀ (j : Nat) (u : Value) (q : Key × Value), us[j]? = some u → prs[j]? = some q → ∃ b : Addr, ps[j]? = some b ∧ IsTup s.heap b #[u, q.2] ∧ keyIs q.1 u = true
  | _, _, .nil => ⟨[], [], .nil, rfl, rfl, fun j u q e => by simp at e⟩
  | _, _, .cons (a := p) (b := kv) h t => by
    obtain ⟨prs, us, r, hl0, hl, hp⟩ := pairs_at I t
    obtain ⟨its, rv, ht, _⟩ := I.tuple h
    obtain ⟨u, y, ei, ru, ry⟩ := vals2 rv
    subst ei
    refine ⟨(kv.1, y) :: prs, u :: us, .cons ⟨rfl, ry⟩ r, by rw [List.length_cons, List.length_cons, hl0], by rw [List.length_cons, List.length_cons, hl], fun j u' q e1 e2 => ?_⟩
    cases j with
    | zero =>
      cases (Option.some.inj e1 : u = u')
      cases (Option.some.inj e2 : (kv.1, y) = q)
      exact ⟨p, rfl, ht, kV_is (P := X.prog) (w := X.w) ru⟩
    | succ j =>
      obtain ⟨b, e3, e4, e5⟩ := hp j u' q (by simpa using e1) (by simpa using e2)
      exact ⟨b, by simpa using e3, e4, e5⟩
/-- dict(x) of a tuple of pairs -/
theorem call_dictT (hcalm : X.calm = true) : CallR X (.type "dict") (fun xs H Q => ∃ (a : Addr) (ps : List Addr) (kvs : List (Key × V)), xs = [.ref a] ∧ FrzT H a (ps.map V.ref) ∧ Paired (fun p kv => SqT X.K H p [kV kv.1, kv.2]) ps kvs ∧ ps.length ≤ 1000 ∧
    ∀ p, H p = none → Q (.ref p) (upd H p (.dK (mergeK [] kvs)))) := by
  intro pins s σ H xs us Q I r q
  obtain ⟨a, ps, kvs, ex, ⟨o, ha, hd⟩, hp, hl1000, q⟩ := q
  subst ex
  obtain ⟨u, eu, rx⟩ := vals1 r
  subst eu
  cases rx
  obtain ⟨hga, hz, its, rv, o', hg', hc, n, hdat⟩ := (show ObjOk X.prog X.w H s.heap a (.frz o (.tup (ps.map V.ref))) from I.hok a _ ha)
  rw [hga] at hg'
  cases hg'
  have ei := refs_at rv
  subst ei
  obtain ⟨prs, us, rel, hl0, hl, hpr⟩ := pairs_at I hp
  have ok : PlainSeq "tuple" s.heap a (ps.map Value.ref).toArray ∧ PairItems s.heap (ps.map Value.ref).toArray (fun j => ps.getD j 0) (us.zip (prs.map (·.2))) := by
    refine ⟨⟨o, n, hga, hc, hd, hdat⟩, by simp; omega, fun j k v e => ?_⟩
    obtain ⟨e1, e2⟩ := List.getElem?_zip_eq_some.mp e
    rw [List.getElem?_map] at e2
    obtain ⟨q', e3, e4⟩ := Option.map_eq_some_iff.mp e2
    obtain ⟨b, e5, ⟨ob, h1, h2, m, h3⟩, e7⟩ := hpr j k q' e1 e3
    have e4 : q'.2 = v := e4
    subst e4
    refine ⟨by simp [e5], ?_⟩
    have : ps.getD j 0 = b := by simp [List.getD, e5]
    show PairAt s.heap (ps.getD j 0) k q'.2
    rw [this]
    exact .inl ⟨ob, h1, h2, m, h3⟩
  refine PySem.call_dict_pairs (knd := mixKind X.prog X.w) (kvs := prs) (PairArg.tuple a (ps.map Value.ref).toArray (fun j => ps.getD j 0) (us.zip (prs.map (·.2)))) (I.ok.hd hcalm) ok ⟨by simp; omega, fun i key v e => ?_⟩ (by rw [sizeLine_eq] at *; simp; omega) fun h' tk hd' k => ?_
  · obtain ⟨e1, e2⟩ := List.getElem?_zip_eq_some.mp (show (us.zip (prs.map (·.2)))[i]? = some (key, v) from e)
    rw [List.getElem?_map] at e2
    obtain ⟨q', e3, e4⟩ := Option.map_eq_some_iff.mp e2
    obtain ⟨b, e5, e6, e7⟩ := hpr i key q' e1 e3
    have e4 : q'.2 = v := e4
    subst e4
    exact ⟨q'.1, e3, e7⟩
  · have hm : (s.heap.objs.size == sysModules) = false := beq_eq_false_iff_ne.mpr (Nat.ne_of_gt I.big)
    have hlen : (mergeK [] kvs).length ≤ sizeLine := by
      refine Nat.le_trans (length_mergeK kvs []) ?_
      rw [List.length_nil, Nat.zero_add, rel.length, hl, sizeLine_eq]
      omega
    exact ⟨.ref s.heap.objs.size, upd H s.heap.objs.size (.dK (mergeK [] kvs)), I.laid (t' := tk) (fun b ob e => k b ob (by simp) e) (Nat.le_refl _) (show ObjOk X.prog X.w _ _ _ (.dK (mergeK [] kvs)) from ⟨hlen, hm, merged [] prs, KV.merge rel .nil, hd'⟩), rfl, q _ (I.hok.fresh (Nat.le_refl _))⟩
/-- d.update(e) -/
def rUpdD : V → List V → Hp → VK → Prop := fun x vs H Q => ∃ (a b : Addr) (kvs more : List (Key × V)), x = .ref a ∧ vs = [.ref b] ∧ a ≠ b ∧ H a = some (.dK kvs) ∧ H b = some (.dK more) ∧ kvs.length + more.length ≤ 1000 ∧ Q .non (upd H a (.dK (mergeK kvs more)))
theorem mt_updD : MtR X "dict.update" rUpdD := by
  intro pins s σ H x xs v us Q I rx rxs h
  obtain ⟨a, b, kvs, more, rfl, rfl, hne, ha, hb, hl, q⟩ := h
  cases rx
  obtain ⟨u1, rfl, r1⟩ := vals1 rxs
  cases r1
  obtain ⟨z, hd, vs, rel, dd⟩ := dk_of I.hok ha
  obtain ⟨z2, hd2, vs2, rel2, dd2⟩ := dk_of I.hok hb
  have e1 := rel.length
  have e2 := rel2.length
  have hs := sizeLine_eq
  refine call_meetsIn PySem.F.slot_dict_update dd.typeIs PySem.F.entry_dict_update (PySem.F.args_dict_update_2 _ _) (meets_dict_update (mixKind X.prog X.w) a b hne hd2) ⟨vs, vs2, dd, dd2, by omega, fun h' dd' _ hs' => ?_⟩
  have he : ∃ q, h'.get? a = some q := let ⟨q, _, _, hq, _⟩ := dd'; ⟨q, hq⟩
  have lm := length_mergeK more kvs
  exact ⟨.non, _, d_write (t' := s.toks) I (by rw [ha]; exact True.intro) hs' he (dk_new (by omega) hd (KV.merge rel2 rel) dd'), rfl, q⟩
end
end Pk
/-! Data in which each tuple of pairs (a text, a number) is known to have no dict of its own. -/
namespace Pk
open PySem L2
theorem _root_.L2.Rd.ne {H : Hp} {a P : Addr} {xs : List V} {ps : Array Value} (h : Rd H a (.tup xs)) (hP : H P = some (.tbl ps)) : a ≠ P := by
  rcases h with h | ⟨o, h⟩
  · exact ne_of h hP (by intro z; cases z)
  · exact ne_of h hP (by intro z; cases z)
def pairLike : PyData → Bool
  | .tuple [.str _, .int _] => true
  | _ => false
/-- pairs alone, one at least -/
def heapLike (ds : List PyData) : Bool := !ds.isEmpty && ds.all pairLike
mutual
inductive Fz (H : Hp) : V → PyData → Prop
  | non : Fz H .non .none
  | bl (b : Bool) : Fz H (.bl b) (.bool b)
  | int (i : Int) : Fz H (.int i) (.int i)
  | str (x : Str) : Fz H (.str x) (.str x)
  | lst {a : Addr} {xs : List V} {ds : List PyData} : H a = some (.lst xs) → FzAll H xs ds → Fz H (.ref a) (.list ds)
  | tup {a : Addr} {xs : List V} {ds : List PyData} : Rd H a (.tup xs) → (heapLike ds = true → FrzT H a xs) → FzAll H xs ds → Fz H (.ref a) (.tuple ds)
  | dct {a : Addr} {kvs : List (Key × V)} {es : List (PyData × PyData)} : H a = some (.dK kvs) → (kvs.map (·.1)).Nodup → es.map (·.1) = kvs.map (fun p => keyD p.1) → FzAll H (kvs.map (·.2)) (es.map (·.2)) → Fz H (.ref a) (.dict es)
inductive FzAll (H : Hp) : List V → List PyData → Prop
  | nil : FzAll H [] []
  | cons {v : V} {vs : List V} {d : PyData} {ds : List PyData} : Fz H v d → FzAll H vs ds → FzAll H (v :: vs) (d :: ds)
end
mutual
theorem Fz.same {H H' : Hp} (s : Same H H') : ∀ {v : V} {d : PyData}, Fz H v d → Fz H' v d
  | _, _, .non => .non
  | _, _, .bl b => .bl b
  | _, _, .int i => .int i
  | _, _, .str x => .str x
  | _, _, .lst h a => .lst (s _ _ h) (FzAll.same s a)
  | _, _, .tup h g a => .tup (h.map (s _)) (fun e => (g e).map (s _)) (FzAll.same s a)
  | _, _, .dct h n e a => .dct (s _ _ h) n e (FzAll.same s a)
theorem FzAll.same {H H' : Hp} (s : Same H H') : ∀ {vs : List V} {ds : List PyData}, FzAll H vs ds → FzAll H' vs ds
  | _, _, .nil => .nil
  | _, _, .cons h t => .cons (Fz.same s h) (FzAll.same s t)
end
mutual
theorem Fz.tr {H : Hp} : ∀ {v : V} {d : PyData}, Fz H v d → Tr H v d
  | _, _, .non => .non
  | _, _, .bl b => .bl b
  | _, _, .int i => .int i
  | _, _, .str x => .str x
  | _, _, .lst h a => .lst h (FzAll.tr a)
  | _, _, .tup h g a => .tup h (FzAll.tr a)
  | _, _, .dct h n e a => .dct h n e (FzAll.tr a)
theorem FzAll.tr {H : Hp} : ∀ {vs : List V} {ds : List PyData}, FzAll H vs ds → TrAll H vs ds
  | _, _, .nil => .nil
  | _, _, .cons h t => .cons (Fz.tr h) (FzAll.tr t)
end
mutual
/-- no tuple of pairs in it -/
def noHeap : PyData → Bool
  | .list ds => noHeaps ds
  | .tuple ds => !heapLike ds && noHeaps ds
  | .dict es => noHeapKv es
  | _ => true
def noHeaps : List PyData → Bool
  | [] => true
  | d :: ds => noHeap d && noHeaps ds
def noHeapKv : List (PyData × PyData) → Bool
  | [] => true
  | (_, d) :: ds => noHeap d && noHeapKv ds
end
theorem noHeapKv_map : ∀ es : List (PyData × PyData), noHeapKv es = noHeaps (es.map (·.2))
  | [] => by rw [noHeapKv, List.map_nil, noHeaps]
  | (_, d) :: es => by rw [noHeapKv, List.map_cons, noHeaps, noHeapKv_map es]
mutual
theorem Tr.fz {H : Hp} : ∀ {v : V} {d : PyData}, Tr H v d → noHeap d = true → Fz H v d
  | _, _, .non, _ => .non
  | _, _, .bl b, _ => .bl b
  | _, _, .int i, _ => .int i
  | _, _, .str x, _ => .str x
  | _, _, .lst h a, e => .lst h (TrAll.fz a (by rw [noHeap] at e; exact e))
  | _, _, .tup h a, e => by
    rw [noHeap, Bool.and_eq_true] at e
    refine .tup h (fun z => ?_) (TrAll.fz a e.2)
    rw [z] at e
    cases e.1
  | _, _, .dct h n e a, z => .dct h n e (TrAll.fz a (by rw [noHeap, noHeapKv_map] at z; exact z))
theorem TrAll.fz {H : Hp} : ∀ {vs : List V} {ds : List PyData}, TrAll H vs ds → noHeaps ds = true → FzAll H vs ds
  | _, _, .nil, _ => .nil
  | _, _, .cons h t, e => by
    rw [noHeaps, Bool.and_eq_true] at e
    exact .cons (Tr.fz h e.1) (TrAll.fz t e.2)
end
theorem FzAll.length {H : Hp} {vs : List V} {ds : List PyData} (h : FzAll H vs ds) : vs.length = ds.length := h.tr.length
theorem FzAll.get {H : Hp} : ∀ {vs : List V} {ds : List PyData} {i : Nat} {v : V}, FzAll H vs ds → vs[i]? = some v → ∃ d, ds[i]? = some d ∧ Fz H v d
  | _, _, i, v, .nil, h => by simp at h
  | _, _, 0, v, .cons h t, e => by
    cases (show some _ = some v from e)
    exact ⟨_, rfl, h⟩
  | _, _, i + 1, v, .cons h t, e => by
    exact FzAll.get (i := i) t e
theorem FzAll.snoc {H : Hp} : ∀ {vs : List V} {ds : List PyData} {v : V} {d : PyData}, FzAll H vs ds → Fz H v d → FzAll H (vs ++ [v]) (ds ++ [d])
  | _, _, _, _, .nil, one => .cons one .nil
  | _, _, _, _, .cons h t, g => .cons h (FzAll.snoc t g)
theorem FzAll.append {H : Hp} : ∀ {vs ws : List V} {ds es : List PyData}, FzAll H vs ds → FzAll H ws es → FzAll H (vs ++ ws) (ds ++ es)
  | _, _, _, _, .nil, g => g
  | _, _, _, _, .cons h t, g => .cons h (FzAll.append t g)
theorem FzAll.drop {H : Hp} : ∀ {xs : List V} {ds : List PyData} (n : Nat), FzAll H xs ds → FzAll H (xs.drop n) (ds.drop n)
  | _, _, 0, h => h
  | _, _, _ + 1, .nil => .nil
  | _, _, n + 1, .cons _ t => FzAll.drop n t
theorem FzAll.take {H : Hp} : ∀ {xs : List V} {ds : List PyData} (n : Nat), FzAll H xs ds → FzAll H (xs.take n) (ds.take n)
  | _, _, 0, h => by simpa using FzAll.nil
  | _, _, _ + 1, .nil => .nil
  | _, _, n + 1, .cons h t => .cons h (FzAll.take n t)
theorem FzAll.rev {H : Hp} : ∀ {xs : List V} {ds : List PyData}, FzAll H xs ds → FzAll H xs.reverse ds.reverse
  | _, _, .nil => .nil
  | _, _, .cons h t => by
    rw [List.reverse_cons, List.reverse_cons]
    exact (FzAll.rev t).snoc h
theorem FzAll.set {H : Hp} {y : V} {e : PyData} (hy : Fz H y e) : ∀ {xs : List V} {ds : List PyData} (n : Nat), FzAll H xs ds → FzAll H (xs.set n y) (ds.set n e)
  | _, _, _, .nil => .nil
  | _, _, 0, .cons _ t => .cons hy t
  | _, _, n + 1, .cons h t => .cons h (FzAll.set hy n t)
theorem FzAll.erase {H : Hp} : ∀ {xs : List V} {ds : List PyData} (n : Nat), FzAll H xs ds → FzAll H (xs.eraseIdx n) (ds.eraseIdx n)
  | _, _, _, .nil => .nil
  | _, _, 0, .cons _ t => t
  | _, _, n + 1, .cons h t => .cons h (FzAll.erase n t)
theorem odds_noHeap : ∀ d ∈ odds, noHeap d = true := by decide +kernel
end Pk
namespace Pk
open PySem L2
theorem lv_le {j k : Nat} (h : j ≤ k) {d : PyData} (hl : lv j d = true) : lv k d = true := by
  induction h with
  | refl => exact hl
  | step _ ih => exact lv_mono ih
def cutD (ds : List PyData) (lo hi : Option Int) : List PyData := (ds.drop (HT.sIx ds.length 0 lo)).take (HT.sIx ds.length ds.length hi - HT.sIx ds.length 0 lo)
theorem FzAll.cut {H : Hp} {xs : List V} {ds : List PyData} (h : FzAll H xs ds) (lo hi : Option Int) : FzAll H (cutV xs lo hi) (cutD ds lo hi) := by
  unfold cutV cutD
  rw [h.length]
  exact (h.drop _).take _
theorem cutD_mem {ds : List PyData} {lo hi : Option Int} {d : PyData} (h : d ∈ cutD ds lo hi) : d ∈ ds := List.mem_of_mem_drop (List.mem_of_mem_take h)
theorem bulk_take (ds : List PyData) (n : Nat) : PyData.bulkAll (ds.take n) + PyData.bulkAll (ds.drop n) = PyData.bulkAll ds := by rw [← bulk_app, List.take_append_drop]
theorem bulk_cut (ds : List PyData) (lo hi : Option Int) : PyData.bulkAll (cutD ds lo hi) ≤ PyData.bulkAll ds := by
  unfold cutD
  have h1 := bulk_take ds (HT.sIx ds.length 0 lo)
  have h2 := bulk_take (ds.drop (HT.sIx ds.length 0 lo)) (HT.sIx ds.length ds.length hi - HT.sIx ds.length 0 lo)
  omega
theorem bulk_rev : ∀ ds : List PyData, PyData.bulkAll ds.reverse = PyData.bulkAll ds
  | [] => rfl
  | d :: ds => by
    rw [List.reverse_cons, bulk_app, bulk_rev ds, PyData.bulkAll, PyData.bulkAll, PyData.bulkAll]
    omega
theorem bulk_set {d e : PyData} : ∀ {ds : List PyData} {i : Nat}, ds[i]? = some d → PyData.bulkAll (ds.set i e) + d.bulk = PyData.bulkAll ds + e.bulk
  | [], i, h => by simp at h
  | x :: xs, 0, h => by
    cases (show some x = some d from h)
    rw [List.set_cons_zero, PyData.bulkAll, PyData.bulkAll]
    omega
  | x :: xs, i + 1, h => by
    have q := bulk_set (e := e) (ds := xs) (i := i) h
    rw [List.set_cons_succ, PyData.bulkAll, PyData.bulkAll]
    omega
theorem bulk_erase : ∀ (ds : List PyData) (i : Nat), PyData.bulkAll (ds.eraseIdx i) ≤ PyData.bulkAll ds
  | [], i => by simp
  | x :: xs, 0 => by
    rw [List.eraseIdx_cons_zero, PyData.bulkAll]
    omega
  | x :: xs, i + 1 => by
    have := bulk_erase xs i
    rw [List.eraseIdx_cons_succ, PyData.bulkAll, PyData.bulkAll]
    omega
/-- a tuple (tp) or a list -/
def obj (tp : Bool) (xs : List V) : HO := if tp = true then .tup xs else .lst xs
def mkD (tp : Bool) (ds : List PyData) : PyData := if tp = true then .tuple ds else .list ds
/-- a tuple or a list, read -/
def RdO (H : Hp) (a : Addr) (tp : Bool) (xs : List V) : Prop := if tp = true then Rd H a (.tup xs) else H a = some (.lst xs)
theorem RdO.map {H H' : Hp} {a : Addr} {tp : Bool} {xs : List V} (f : ∀ o, H a = some o → H' a = some o) (h : RdO H a tp xs) : RdO H' a tp xs := by
  cases tp with
  | true => exact Rd.map f h
  | false => exact f _ h
theorem RdO.some {H : Hp} {a : Addr} {tp : Bool} {xs : List V} (h : RdO H a tp xs) : ∃ o, H a = some o := by
  cases tp with
  | true =>
    rcases (show Rd H a (.tup xs) from h) with h | ⟨o, h⟩
    · exact ⟨_, h⟩
    · exact ⟨_, h⟩
  | false => exact ⟨_, h⟩
theorem seq_of {H : Hp} {x : V} {d : PyData} (t : Fz H x d) (h : (isTup d || isLst d) = true) : ∃ a xs ds tp, x = .ref a ∧ RdO H a tp xs ∧ FzAll H xs ds ∧ d = mkD tp ds := by
  cases t with
  | @lst a xs ds h' al => exact ⟨a, xs, ds, false, rfl, h', al, rfl⟩
  | @tup a xs ds h' _ al => exact ⟨a, xs, ds, true, rfl, h', al, rfl⟩
  | _ => cases h
theorem mk_bulk (tp : Bool) (ds : List PyData) : (mkD tp ds).bulk = PyData.bulkAll ds := by cases tp <;> rfl
theorem mk_lv (k : Nat) (tp : Bool) (ds : List PyData) : lv k (mkD tp ds) = lvs k ds := by cases tp <;> rfl
theorem mk_depth (tp : Bool) (ds : List PyData) : (mkD tp ds).depth = (PyData.tuple ds).depth := by cases tp <;> simp [mkD, PyData.depth]
theorem depth_tup (ds : List PyData) : (PyData.tuple ds).depth = PyData.depthAll ds + 1 := by simp [PyData.depth, Nat.add_comm]
theorem mk_isT (tp : Bool) (ds : List PyData) : isTup (mkD tp ds) = tp := by cases tp <;> rfl
theorem mk_isI (tp : Bool) (ds : List PyData) : isI (mkD tp ds) = false := by cases tp <;> rfl
theorem mk_isS (tp : Bool) (ds : List PyData) : isStr (mkD tp ds) = false := by cases tp <;> rfl
theorem sq_obj {K : PySem.W.Frag} {H : Hp} {a : Addr} {tp : Bool} {xs : List V} (h : RdO H a tp xs) : SqL K H a xs ∨ SqT K H a xs := by
  cases tp with
  | true => exact .inr (.inl h)
  | false => exact .inl (SqL.of h)
theorem ix_obj {K : PySem.W.Frag} {H : Hp} {a : Addr} {tp : Bool} {xs : List V} {i : Int} {y : V} {Q : VK} (h : RdO H a tp xs) (hi : atI xs i = some y) (q : Q y H) : rIx K (.ref a) (.int i) H Q := by
  cases tp with
  | true => exact .inr (.inl ⟨a, xs, i, y, rfl, rfl, .inl h, hi, q⟩)
  | false => exact .inl ⟨a, xs, i, y, rfl, rfl, SqL.of h, hi, q⟩
def spBent (m : Nat) : Sp := fun vs H Q _ => ∃ (p c : Addr) (X : List Addr) (n : Int) (k : Nat) (x : V) (d : PyData), vs = [.ref p, x] ∧ PenC H p c n ∧ Al p X H ∧ n + 4 * m ≤ 500000000 ∧ Fz (zn X H) x d ∧ lv k d = true ∧ k ≤ 5 ∧ d.bulk ≤ 30000 ∧ d.depth < m ∧ m ≤ 100 ∧
  ∀ (y : V) (d' : PyData) (H' : Hp), PenC H' p c (n + 4 * m) → Sb p H H' → Fz (zn X H') y d' → lv (k + 1) d' = true → d'.bulk ≤ 4 * d.bulk + 100 → d'.depth ≤ d.depth + 4 → Q y H'
abbrev nBent : List Str := ["_law_pen_here", "_law_thing", "_law_at", "_law_way", "_law_rows", "_law_pair", "_law_some"]
section
variable {P : Program} {w : World} {K : PySem.W.Frag} {mg : Str → Option Value} {base : Heap}
theorem bent_none {f : Addr} {fd : FuncData} {j : Nat} : FnOk P w K mg base CX0 j f fd ["_law_pen_here", "_law_thing"] (spBent 0) := by
  have no : ∀ vs H Q E, ¬ spBent 0 vs H Q E := fun vs H Q E h => by
    obtain ⟨p, c, X, n, k, x, d, _, _, _, _, _, _, _, _, h0, _⟩ := h
    omega
  exact ⟨fun vs H Q E h => absurd h (no vs H Q E), fun A outer s H args us vs Q E _ _ _ _ h => absurd h (no vs H Q E)⟩
end
end Pk
/-! Quiet runs: what a def does that is called within a generator expression. -/
namespace Pk
open PySem PySem.Spec PyProof.Rows L2
/-- the surroundings of a quiet run: env's names are m -/
structure Qe (K : PySem.W.Frag) (mg : Str → Option Value) (env : Env) (m : Str → Option Value) (s : Shared) : Prop where
  kind : env.scope.kind = .function
  glob : env.globals = mainGlobals
  blt : env.builtins = builtinsNs
  ns : s.heap.Ns env.locals m
  kin : K.In s.heap
  gns : s.heap.Ns mainGlobals mg
  bns : ∃ mb, s.heap.Ns builtinsNs mb ∧ ∀ x : Str, x ≠ "__name__" → mb x = bootBuiltins x
  noL : s.heap.NoLimit
theorem Qe.ext {K : PySem.W.Frag} {mg : Str → Option Value} {env : Env} {m : Str → Option Value} {s s' : Shared} (q : Qe K mg env m s) (k : ∀ b o, s.heap.get? b = some o → s'.heap.get? b = some o) : Qe K mg env m s' :=
  ⟨q.kind, q.glob, q.blt, q.ns.keeps k, q.kin.keeps k, q.gns.keeps k, let ⟨mb, h1, h2⟩ := q.bns; ⟨mb, h1.keeps k, h2⟩, q.noL.keeps k⟩
theorem Qe.tok {K : PySem.W.Frag} {mg : Str → Option Value} {env : Env} {m : Str → Option Value} {s : Shared} (q : Qe K mg env m s) (t : Nat) : Qe K mg env m { s with toks := t } := q.ext fun _ _ e => e
section
variable {P : Program} {w : World} {K : PySem.W.Frag} {mg : Str → Option Value} {A : Around} {E : Value → Shared → Prop} {env : Env} {m : Str → Option Value} {s : Shared} {Q : Value → Shared → Prop}
theorem q_loc {x : Str} {v : Value} {p : Pos} (q : Qe K mg env m s) (hl : env.scope.names.lookup x = some .local) (hm : m x = some v) (h : Q v s) (hd : (x == ("__debug__" : Str)) = false := by decide) : wpAny (model P w) A (eval (.Name x p) env) Q E s :=
  wpAny_Name (wpAny_loadName_local q.kind hl q.ns hm h) hd
theorem q_blt {x : Str} {u : Value} {p : Pos} (q : Qe K mg env m s) (hg : env.scope.names.lookup x = some .globalImplicit) (hm : mg x = none) (hv : bootBuiltins x = some u) (h : Q u s)
    (hn : x ≠ "__name__" := by decide) (hd : (x == ("__debug__" : Str)) = false := by decide) : wpAny (model P w) A (eval (.Name x p) env) Q E s := by
  obtain ⟨mb, h1, h2⟩ := q.bns
  exact Calls.Name_function_global q.kind hg (Calls.loadGlobal_builtin (by rw [q.glob]; exact q.gns) hm (by rw [q.blt]; exact h1) ((h2 x hn).trans hv) h) hd
theorem q_glob {x : Str} {u : Value} {p : Pos} (q : Qe K mg env m s) (hg : env.scope.names.lookup x = some .globalImplicit) (hm : mg x = some u) (h : Q u s)
    (hd : (x == ("__debug__" : Str)) = false := by decide) : wpAny (model P w) A (eval (.Name x p) env) Q E s :=
  Calls.Name_function_global q.kind hg (Calls.loadGlobal_global (by rw [q.glob]; exact q.gns) hm h) hd
theorem q_isB {e : Expr} {Qb : Bool → Shared → Prop} (h : wpAny (model P w) A (eval e env) (fun v s1 => ∃ b, v = .bool b ∧ Qb b s1) E s) (he : ∀ whole, isTrue e env whole = (do let v ← whole; standAt e.pos; holding [v] (truthy v)) := by intro _; rfl) :
    wpAny (model P w) A (isTrue e env (eval e env)) Qb E s :=
  isTrue_plain (thn h fun v s1 ⟨b, e1, q⟩ => by
    subst e1
    exact wpAny_truthy_bool q) (he _)
/-- isinstance(x, T), x a local -/
theorem q_isi {x T : Str} {p1 p2 p3 pos : Pos} {u : Value} {Ty : String} {t : Value} {b : Bool} {Pz : Heap → Prop} (q : Qe K mg env m s) (hl : env.scope.names.lookup x = some .local) (hm : m x = some u) (hi : env.scope.names.lookup ("isinstance" : Str) = some .globalImplicit) (mi : mg "isinstance" = none)
    (hT : env.scope.names.lookup T = some .globalImplicit) (mT : mg T = none) (bT : bootBuiltins T = some (.type Ty)) (Z : PySem.W.KitX K u t Pz) (pz : Pz s.heap) (ek : PySem.W.kitOne K t (.type Ty) = some b) (hu : u ≠ .builtin "__main__.__loader__#opaque")
    (h : ∀ tk, Q (.bool b) { s with toks := tk }) (nT : T ≠ "__name__" := by decide) (dT : (T == ("__debug__" : Str)) = false := by decide) (dx : (x == ("__debug__" : Str)) = false := by decide) :
    wpAny (model P w) A (eval (.Call (.Name "isinstance" p1) [.Name x p2, .Name T p3] [] pos) env) Q E s := by
  refine wpAny_Call_Name_kw (q_blt (u := .builtin "isinstance") q hi mi (by decide +kernel) ?_)
  refine PyProof.Rows.callWith_builtin1 ?_ (by rfl) (by rfl)
  refine Calls.spliced_cons (q_loc q hl hm ?_ dx)
  refine Calls.spliced_cons (q_blt q hT mT bT ?_ nT dT)
  refine Calls.spliced_nil ?_
  exact PySem.W.kia_one Z q.kin pz ek hu h
end
/-- is_whole of any data, with nothing but tokens and its own frame left behind -/
theorem quietWhole {P : Program} {w : World} {K : PySem.W.Frag} {mg : Str → Option Value} {A : Around} {s : Shared} {f : Addr} {fd : FuncData} (F : Fun K "is_whole" "is_whole" sWhole f fd) (bG : Binds K fd ["thing", "low", "high"] []) (B : BltH mg)
    (inK : K.In s.heap) (gl : s.heap.Ns mainGlobals mg) (bl : ∃ mb, s.heap.Ns builtinsNs mb ∧ ∀ x : Str, x ≠ "__name__" → mb x = bootBuiltins x) (noL : s.heap.NoLimit) (hd : A.depth < recursionLimit)
    {u : Value} {d : PyData} {lo hi : Int} {t1 t2 : Tok} {Pz : Heap → Prop} (Z : PySem.W.KitX K u (.type (tyD d)) Pz) (pz : ∀ h' : Heap, (∀ b o, s.heap.get? b = some o → h'.get? b = some o) → Pz h') (hu : u ≠ .builtin "__main__.__loader__#opaque") (hi' : ∀ i, d = .int i → ∃ t, u = .int i t) :
    codeAny (model P w) A (.call (.ref f) ⟨[u, .int lo t1, .int hi t2], []⟩) (fun r s' => r = .ok (.ret (.bool (wholeD lo hi d))) ∧ Keeps s s') s := by
  have hbt := bG s [u, .int lo t1, .int hi t2] inK rfl
  obtain ⟨oc, oq, kV, doc, pm, an, cv, ct, osl, rfl, lk, hcd⟩ := F.ex
  refine codeAny_call_function hd (inK _ _ lk) rfl scWhole.co scWhole.gen rfl (PySem.W.codeRec_of inK hcd) (hbt _ _ _ _ (wpAny_newFunctionEnv_cells scWhole.kind (fun y hy => ?_) fun env he sz xx => ?_))
  · rcases scWhole.par y.1 (List.of_mem_zip (show (y.1, y.2) ∈ List.zip (["thing", "low", "high"] : List Str) ([u, .int lo t1, .int hi t2] ++ []) from hy)).1 with z | z
    · exact .inl z
    · exact .inr ⟨z, PySem.W.cellsFrom_some _ _ _ (.inl z)⟩
  · subst he
    have kp := xx.toInCall.keep
    refine ⟨noL.keeps kp, codeAny_func ?_⟩
    obtain ⟨h1, tk1, e1⟩ := xx.toInCall.same
    have q : Qe K mg _ _ sz := ⟨scWhole.kind, rfl, rfl, xx.toInCall.ns, inK.keeps kp, gl.keeps kp, let ⟨mb, z1, z2⟩ := bl; ⟨mb, z1.keeps kp, z2⟩, noL.keeps kp⟩
    have pzz : Pz sz.heap := pz _ kp
    have done : ∀ (t : Nat) (b : Bool), b = wholeD lo hi d → ((.ok (.ret (.bool b)) : Result) = .ok (.ret (.bool (wholeD lo hi d)))) ∧ Keeps s { sz with toks := t } := fun t b e => by
      subst e
      refine ⟨rfl, sz.heap, t, ?_, kp⟩
      rw [e1]
    have isB : PySem.W.kitOne K (.type (tyD d)) (.type "bool") = some (isB d) := kit_ty (kB d)
    have isI' : PySem.W.kitOne K (.type (tyD d)) (.type "int") = some (isI d) := kit_ty (kI d)
    refine wpAny_execs_cons (wpAny_If ?_)
    refine isTrue_or (q_isB (q_isi q rfl (by rfl) rfl B.isinstance rfl B.bool (by decide +kernel) Z pzz isB hu fun tk => ⟨_, rfl, ?_⟩))
    cases hB : Pk.isB d with
    | true =>
      have e : false = wholeD lo hi d := by cases d <;> first | rfl | (simp [Pk.isB] at hB)
      exact wpAny_execs_cons (wpAny_Return_some (Constant_bool (done _ _ e)))
    | false =>
      refine isTrue_or (isTrue_not (q_isB (q_isi (q.tok tk) rfl (by rfl) rfl B.isinstance rfl B.int (by decide +kernel) Z pzz isI' hu fun tk2 => ⟨_, rfl, ?_⟩)))
      cases hI : Pk.isI d with
      | false =>
        have e : false = wholeD lo hi d := by cases d <;> first | rfl | (simp [Pk.isI] at hI)
        exact wpAny_execs_cons (wpAny_Return_some (Constant_bool (done _ _ e)))
      | true =>
        refine isTrue_or_nil ?_
        refine wpAny_execs_nil (wpAny_execs_cons (wpAny_Return_some ?_))
        obtain ⟨i, rfl⟩ : ∃ i, d = .int i := by cases d <;> first | exact ⟨_, rfl⟩ | (simp [Pk.isI, Pk.isB] at hI hB)
        obtain ⟨t, rfl⟩ := hi' i rfl
        refine Compare_chain (q_loc (q.tok tk2) rfl (by rfl) (chain_link (q_loc (q.tok tk2) rfl (by rfl) (le_int (wpAny_truthy_bool ?_)))))
        have ew := wholeD_int lo hi i
        by_cases c : lo ≤ i
        · rw [decide_eq_true c] at ew ⊢
          exact chain_last (q_loc (q.tok _) rfl (by rfl) (le_int (done _ _ ew.symm)))
        · rw [decide_eq_false c] at ew ⊢
          exact done _ _ ew.symm
end Pk
section
set_option maxHeartbeats 2000000
/-! all(test of x, y for x, y in zip(two tuples)), the test a quiet run. -/
namespace Pk
open PySem PySem.Spec PyProof.Rows L2
theorem notNew {q n : Nat} (h : q < n) : q ≠ n + 4 ∧ q ≠ n + 3 ∧ q ≠ n ∧ q ≠ n + 1 := by omega
theorem out4 {q n : Addr} (h : q < n) : q ∉ [n + 4, n + 3, n, n + 1] := fun z => by
  obtain ⟨h1, h2, h3, h4⟩ := notNew h
  simp only [List.mem_cons, List.not_mem_nil, or_false] at z
  rcases z with e | e | e | e
  · exact h1 e
  · exact h2 e
  · exact h3 e
  · exact h4 e
theorem zip_sep {z TI TO i1 i2 a b : Addr} (D : ZipApart z TI TO i1 i2 a b) : ZipSep2 z TI TO i1 i2 [i1, a] [i2, b] := by
  refine ⟨D.TIz, D.TOz, D.TITO, D.TIi1, List.mem_cons_self, fun q => ?_, fun q => ?_, D.TIi2, List.mem_cons_self, fun q => ?_, fun q => ?_, fun q => ?_, fun q => ?_⟩ <;> simp only [List.mem_cons, List.not_mem_nil, or_false] at q <;> rcases q with e | e
  · exact D.i1z e.symm
  · exact D.l1z e.symm
  · exact D.TOi1 e
  · exact D.l1TO e.symm
  · exact D.i2z e.symm
  · exact D.l2z e.symm
  · exact D.TOi2 e
  · exact D.l2TO e.symm
  · exact D.i12 e
  · exact D.l2i1 e.symm
  · exact D.i12 e.symm
  · exact D.l1i2 e.symm
/-- all but the table at P stands as it stood -/
def KeptBut (P : Addr) (h h' : Heap) : Prop := ∀ b o, b ≠ P → h.get? b = some o → h'.get? b = some o
theorem Tr.kitAt {X : Cx} {pz : List (Addr × Obj)} {σ : L2.St} {H : Hp} {s : Shared} {x : V} {d : PyData} {v : Value} {P : Addr} {ps : Array Value} (I : L2.Inv X pz σ H s) (t : Tr H x d) (r : RelV x v) (hP : H P = some (.tbl ps)) :
    ∃ Pz : Heap → Prop, PySem.W.KitX X.K v (.type (tyD d)) Pz ∧ (∀ h', KeptBut P s.heap h' → Pz h') ∧ v ≠ .builtin "__main__.__loader__#opaque" := by
  cases t with
  | non =>
    cases (show v = Value.none from r)
    exact ⟨_, PySem.W.kitx_none, fun _ _ => True.intro, fun z => nomatch z⟩
  | bl b =>
    cases (show v = Value.bool b from r)
    exact ⟨_, PySem.W.kitx_bool, fun _ _ => True.intro, fun z => nomatch z⟩
  | int i =>
    obtain ⟨t, q⟩ := (show ∃ t, v = Value.int i t from r)
    cases q
    exact ⟨_, PySem.W.kitx_int, fun _ _ => True.intro, fun z => nomatch z⟩
  | str y =>
    obtain ⟨t, q⟩ := (show ∃ t, v = Value.str y t from r)
    cases q
    exact ⟨_, PySem.W.kitx_str, fun _ _ => True.intro, fun z => nomatch z⟩
  | @lst a xs ds ha _ =>
    cases (show v = Value.ref a from r)
    obtain ⟨_, _, n, _, h1⟩ := (show ObjOk X.prog X.w H s.heap a (.lst xs) from I.hok a _ ha)
    exact ⟨_, PySem.W.kitx_list, fun h' k => ⟨_, k _ _ (ne_of ha hP (by intro z; cases z)) h1, rfl⟩, fun z => nomatch z⟩
  | @tup a xs ds ha _ =>
    cases (show v = Value.ref a from r)
    obtain ⟨_, _, _, o, h1, h2, _⟩ := (show ObjOk X.prog X.w H s.heap a (.tup xs) from ha.ok I.hok)
    exact ⟨_, PySem.W.kitx_tuple, fun h' k => ⟨o, k _ _ (ha.ne hP) h1, h2⟩, fun z => nomatch z⟩
  | @dct a kvs es ha _ _ _ =>
    cases (show v = Value.ref a from r)
    obtain ⟨_, _, vs, _, o, es, ep, h1, h2, _⟩ := (show ObjOk X.prog X.w H s.heap a (.dK kvs) from I.hok a _ ha)
    exact ⟨_, PySem.W.kitx_dict, fun h' k => ⟨o, k _ _ (ne_of ha hP (by intro z; cases z)) h1, h2.1⟩, fun z => nomatch z⟩
/-- the scope of a generator expression over pairs -/
structure GenZ (env : Env) (scope : Scope) (xa xb : Str) : Prop where
  kind : scope.kind = .function
  co : scope.isCoroutine = false
  cell : ∀ y ∈ scope.names, y.2 ≠ .cell
  dot : scope.names.lookup (".0" : Str) = some NameKind.local
  la : scope.names.lookup xa = some .local
  lb : scope.names.lookup xb = some .local
  ab : xa ≠ xb
  free : ∀ y ∈ scope.names, y.2 = .free → ∃ c, env.cells.lookup y.1 = some c
/-- the element: of data with ok the truth f, quietly -/
def EltZ (X : Cx) (P : Addr) (scope : Scope) (xa xb : Str) (elt : Expr) (f : PyData → PyData → Bool) (ok : PyData → PyData → Prop) : Prop :=
  ∀ (pins : List (Addr × Obj)) (σ : L2.St) (H1 : Hp) (s1 : Shared) (ps : Array Value) (dx dy : PyData) (vx vy : V) (ux uy : Value) (cenv : Env) (A' : Around) (E' : Value → Shared → Prop) (u : Shared) (m : Str → Option Value),
    L2.Inv X pins σ H1 s1 → H1 P = some (.tbl ps) → Tr H1 vx dx → Tr H1 vy dy → RelV vx ux → RelV vy uy → ok dx dy → A'.handled = none → A'.depth ≤ X.A.depth + 1 → A'.units ≤ X.A.units + 8 → cenv.scope = scope → Qe X.K X.mg cenv m u → m xa = some ux → m xb = some uy → KeptBut P s1.heap u.heap →
    wpAny (model X.prog X.w) A' (eval elt cenv) (fun y u' => y = .bool (f dx dy) ∧ Keeps u u') E' u
/-- a generator g that hands out n truths, ready to be walked -/
def ReadyN (X : Cx) (pins : List (Addr × Obj)) (σ : L2.St) (H1 : Hp) (P : Addr) (n : Nat) (tr : Nat → Bool) (g : Addr) (u : Shared) : Prop :=
  ∃ (fp wr : List Addr) (G : Array GenState → Array GenState → Prop) (F : Nat → Value → Prop) (St : Nat → Shared → Prop),
    WalksS X.prog X.w X.A.in1 g fp wr G n F St ∧ St 0 u ∧ TruthOf X.prog X.w X.A.in1 F tr ∧ ∀ u', Moved wr G u u' → ∃ H2, GxR.Tabbed P H1 H2 ∧ L2.Inv X pins σ H2 u'
def trZ (f : PyData → PyData → Bool) (l : List (PyData × PyData)) (j : Nat) : Bool := match l[j]? with
  | some p => f p.1 p.2
  | none => false
theorem trZ_some {f : PyData → PyData → Bool} {l : List (PyData × PyData)} {j : Nat} {p : PyData × PyData} (h : l[j]? = some p) : trZ f l j = f p.1 p.2 := by
  unfold trZ
  rw [h]
theorem all_trZ (f : PyData → PyData → Bool) (l : List (PyData × PyData)) : (List.range l.length).all (trZ f l) = l.all fun p => f p.1 p.2 := by
  rw [Bool.eq_iff_iff, List.all_eq_true, List.all_eq_true]
  constructor
  · intro h p hp
    obtain ⟨j, hj, e⟩ := List.getElem_of_mem hp
    have q := h j (List.mem_range.mpr hj)
    rw [trZ_some (List.getElem?_eq_getElem hj), e] at q
    exact q
  · intro h j hj
    have hj' := List.mem_range.mp hj
    rw [trZ_some (List.getElem?_eq_getElem hj')]
    exact h _ (List.getElem_mem hj')
theorem vals_back : ∀ {xs : List V} {us : List Value} {i : Nat} {u : Value}, Vals xs us → us[i]? = some u → ∃ x, xs[i]? = some x ∧ RelV x u
  | _, _, _, _, .nil, h => by simp at h
  | _, _, 0, _, .cons r _, h => by
    simp only [List.getElem?_cons_zero, Option.some.injEq] at h
    subst h
    exact ⟨_, rfl, r⟩
  | _, _, i + 1, _, .cons _ t, h => by
    simp only [List.getElem?_cons_succ] at h ⊢
    exact vals_back t h
section
variable {X : Cx} {pins : List (Addr × Obj)} {σ : L2.St} {H : Hp} {s : Shared}
theorem gen_zip {c P : Addr} {elt e1 e2 : Expr} {xa xb : Str} {pa pb pt pz gpos ipos : Pos} {kt : Nat} {scope : Scope} {ta : TA} {k : Nat} {f : PyData → PyData → Bool} {ok : PyData → PyData → Prop} {Q' : Value → Shared → Prop} {R : List PyData → List PyData → Hp → Prop}
    (hr : Room k X.A) (TB : GxR.TabB X.base X.mg c P) (hcode : X.env.code = .ref c) (S : GenZ X.env scope xa xb) (hg : Gl X "zip") (hm : X.mg "zip" = none) (ha : PA X [e1, e2] ta) (hel : EltZ X P scope xa xb elt f ok)
    (hs : ∀ v, genFold (.Call (.Name "zip" pz) [e1, e2] [] ipos) X.env v = pure v) (hst : starEach [e1, e2] X.env = (false, eval e1 X.env) :: starEach [e2] X.env) (hpl : (backTo ipos (starEach [e2] X.env)).any (·.1) = false) (I : L2.Inv X pins σ H s)
    (h : ta σ H fun vs H1 => ∃ (a b : Addr) (xs ys : List V) (ds es : List PyData), vs = [.ref a, .ref b] ∧ Rd H1 a (.tup xs) ∧ Rd H1 b (.tup ys) ∧ TrAll H1 xs ds ∧ TrAll H1 ys es ∧ (∀ p ∈ ds.zip es, ok p.1 p.2) ∧ GxR.TabG H1 P ∧ R ds es H1)
    (hQ : ∀ ds es H1 g u, R ds es H1 → ReadyN X pins σ H1 P (ds.zip es).length (trZ f (ds.zip es)) g u → Q' (.ref g) u) :
    wpAny (model X.prog X.w) X.A (eval (.GeneratorExp elt [⟨.Tuple [.Name xa pa, .Name xb pb] kt pt, .Call (.Name "zip" pz) [e1, e2] [] ipos, [], 0⟩] scope gpos) X.env) Q' X.xe s := by
  refine wpAny_GeneratorExp_walksQTD hr.hd S.co (closure_ok S.free) S.cell S.dot S.la S.lb S.ab S.kind (by have := hr.dp; omega) ?_ hs
  refine Call_ (ld_blt I hg hm PyProof.Rows.boot_zip (PyProof.Rows.callWith_type1 (thn (ha.run ipos pins s σ H _ I h) fun us s1 ⟨vs, H1, I1, r1, q1⟩ => ?_) hst hpl))
  obtain ⟨a, b, xs, ys, ds, es, rfl, hA, hB, tA, tB, hok, ⟨ps, hP, ht⟩, q1⟩ := q1
  obtain ⟨u1, u2, rfl, ra, rb⟩ := vals2 r1
  cases ra
  cases rb
  obtain ⟨its, rv, p1, _⟩ := I1.tuple (.inl hA)
  obtain ⟨its2, rv2, p2, _⟩ := I1.tuple (.inl hB)
  have a9 : a < s1.heap.objs.size := let ⟨_, e, _⟩ := p1; Heap.lt_size e
  have b9 : b < s1.heap.objs.size := let ⟨_, e, _⟩ := p2; Heap.lt_size e
  have hPs : s1.heap.get? P = some { cls := .none, data := .fields ps } := I1.hok P _ hP
  have hP9 : P < s1.heap.objs.size := Heap.lt_size hPs
  refine RZ.call_zipT (show s1.heap.IsTuple a its.toArray from p1) (show s1.heap.IsTuple b its2.toArray from p2) fun hz z1 z2 z3 z4 z5 zsz zk => wpAny_pyIter_zip z1 ?_
  generalize hn : s1.heap.objs.size = n at a9 b9 hP9 z1 z2 z3 z4 z5 zsz
  have sep : ZipSep2 (n + 4) (n + 2) (n + 3) n (n + 1) [n, a] [n + 1, b] := zip_sep (PySem.W.ktu_apart n a b a9 b9)
  have na : a ≠ n := Nat.ne_of_lt a9
  have nb : b ≠ n + 1 := Nat.ne_of_lt (Nat.lt_succ_of_lt b9)
  have Wk : ∀ A' : Around, A'.handled = none → WalksU X.prog X.w A' (n + 4) _ _ _ _ _ _ := fun A' hA' => (WalksT.zipD2 sep (drawsTup (A := A'.in1) hA' n a na its.toArray) (drawsTup (A := A'.in1) hA' (n + 1) b nb its2.toArray)).toU
  have hPz : hz.get? P = some { cls := .none, data := .fields ps } := zk _ _ hPs
  have cd : PySem.W.CodeHd hz c P := TB.code.keeps fun b u e => zk _ _ (I1.bk b u e)
  have limz : hz.NoLimit := I1.nolimit.keeps zk
  have l1 := rv.length
  have l2 := rv2.length
  have l3 := tA.length
  have l4 := tB.length
  have hnn : min its.toArray.size its2.toArray.size = (ds.zip es).length := by simp [List.length_zip]; omega
  have notP : ∀ b o, X.base.get? b = some o → b ≠ P := fun b o e z => by
    have q := (I1.bs b o e).2
    rw [z, hP] at q
    cases q
  have cont : ∀ (code : Value) (h3 : Heap) (tk : Nat) (ps' : Array Value), Heap.ExtBut P hz h3 → hz.objs.size ≤ h3.objs.size → h3.get? P = some { cls := .none, data := .fields ps' } → (∃ more, ps' = ps ++ more) → TriplesOk ps'.toList →
      wpAny (model X.prog X.w) X.A (builtinsFor X.env.globals X.env.builtins) (fun bi s4 =>
        ∃ Ia fp wr n0 Pt St0 Mid pz F, Value.ref (n + 4) = .ref Ia ∧ (∀ A' : Around, A'.handled = none → WalksU X.prog X.w A' Ia fp wr n0 Pt St0 Mid) ∧ (∀ i vals, Pt i vals → ∃ va vb, vals = #[va, vb]) ∧ St0 0 s4.heap ∧ (∀ b ∈ fp, b < s4.heap.objs.size) ∧ s4.heap.NoLimit ∧ cStatics ∉ wr ∧
          (∀ href : Heap, (∀ b o, s4.heap.get? b = some o → href.get? b = some o) →
            QuietGenTD X.prog X.w (genEnv scope (cloFrom X.env.cells scope.names []) s4.heap.objs.size code bi X.env) xa xb [] elt (List.range s4.heap.objs.size) wr Pt pz F href (X.A.depth + 1) (X.A.units + 8)) ∧
          (∀ g h5 tk gs, gs.bare = true → s4.heap.objs.size < g → h5.objs.size = g + 1 → (∀ b o, s4.heap.get? b = some o → h5.get? b = some o) →
            WalksS X.prog X.w X.A.in4 g (g :: s4.heap.objs.size :: List.range s4.heap.objs.size) (s4.heap.objs.size :: wr) (GenOnlyQ s4.gens.size) (passing pz n0 0).length
              (fun j y => ∃ i, (passing pz n0 0)[j]? = some i ∧ F i y) (GenAt X.prog X.w X.A.in4 g s4.gens.size s4.heap.objs.size (List.range s4.heap.objs.size) wr pz n0 F) →
            GenAt X.prog X.w X.A.in4 g s4.gens.size s4.heap.objs.size (List.range s4.heap.objs.size) wr pz n0 F 0 { s4 with gens := s4.gens.push gs, toks := tk, heap := h5 } →
            Q' (.ref g) { s4 with gens := s4.gens.push gs, toks := tk, heap := h5 })) X.xe { s1 with heap := h3, toks := tk } := by
    intro code h3 tk ps' hx hsz hP3 hmore ht3
    obtain ⟨bm, ob, g1, g2, g3, g4, g5, g6, g7, g8⟩ := TB.bm
    have kept3 : KeptBut P s1.heap h3 := fun b u hb e => hx b u hb (zk _ _ e)
    have hcP : cStatics ≠ P := fun e => by
      obtain ⟨_, hns, _⟩ := I1.nolimit
      obtain ⟨o', es', ep, ho, hd, _⟩ := hns
      rw [e, hPs] at ho
      cases ho
      cases hd
    have hcl : cStatics < s1.heap.objs.size := let ⟨_, hns, _⟩ := I1.nolimit; hns.lt
    have up : ∀ {q : Addr} {o : Obj}, n ≤ q → hz.get? q = some o → h3.get? q = some o := fun {q o} hq e => hx q o (fun z => by rw [z] at hq; exact absurd hP9 (Nat.not_lt.mpr hq)) e
    refine wpAny_builtinsFor (m := X.mg) (by rw [I1.ok.glob]; exact ((I1.mod.glob.keeps I1.bk).keeps zk).extBut hx TB.gP) g1 g2 (kept3 _ _ g4 (I1.bk _ _ g5)) g6 g7 g8 ?_
    refine ⟨n + 4, _, _, _, _, _, _, (fun _ => true), (fun i y => ∃ p, (ds.zip es)[i]? = some p ∧ y = .bool (f p.1 p.2)), rfl, Wk, ?_, ?_, ?_, limz.extBut hx hcP, ?_, ?_, ?_⟩
    · rintro i vals ⟨x1, x2, _, _, e⟩
      exact ⟨x1, x2, e⟩
    · refine ⟨up (by omega) z1, up (by omega) z2, ⟨_, _, up (by omega) z3⟩, ⟨?_, ?_⟩, ?_, ?_⟩
      · exact z4.at fun o e => up (Nat.le_refl _) e
      · obtain ⟨o, e, r⟩ := p1
        exact ⟨o, kept3 _ _ (hA.ne hP) e, r⟩
      · exact z5.at fun o e => up (by omega) e
      · obtain ⟨o, e, r⟩ := p2
        exact ⟨o, kept3 _ _ (hB.ne hP) e, r⟩
    · intro q hq
      have lt9 : ∀ {q : Addr} {o : Obj}, hz.get? q = some o → q < h3.objs.size := fun e => Nat.lt_of_lt_of_le (Heap.lt_size e) hsz
      simp only [List.cons_append, List.nil_append, List.mem_cons, List.not_mem_nil, or_false] at hq
      rcases hq with e | e | e | e | e | e | e
      · rw [e]; exact lt9 z1
      · rw [e]; exact lt9 z2
      · rw [e]; exact lt9 z3
      · rw [e]; obtain ⟨_, y, _⟩ := z4; exact lt9 y
      · rw [e]; obtain ⟨_, y, _⟩ := p1; exact lt9 (zk _ _ y)
      · rw [e]; obtain ⟨_, y, _⟩ := z5; exact lt9 y
      · rw [e]; obtain ⟨_, y, _⟩ := p2; exact lt9 (zk _ _ y)
    · rw [hn] at hcl
      exact out4 hcl
    · intro href hhref
      refine ⟨fun A' E' i va vb u m hA' _ _ _ _ _ _ _ => ?_, fun A' E' i va vb u m hA' hdp hun hPv _ hns hma hmb hkp => ?_⟩
      · simp only [List.forIn_nil]
        exact wpAny_pure ⟨rfl, GxR.keeps_refl _⟩
      · obtain ⟨x1, x2, i1, i2, e⟩ := hPv
        have e' : va = x1 ∧ vb = x2 := by simpa using congrArg Array.toList e
        obtain ⟨rfl, rfl⟩ := e'
        obtain ⟨vx, hvx, rx⟩ := vals_back rv (show its[i]? = some va by simpa using i1)
        obtain ⟨vy, hvy, ry⟩ := vals_back rv2 (show its2[i]? = some vb by simpa using i2)
        obtain ⟨dx, hdx, tx⟩ := tA.get hvx
        obtain ⟨dy, hdy, ty⟩ := tB.get hvy
        have hz2 : (ds.zip es)[i]? = some (dx, dy) := by simp [List.getElem?_zip_eq_some, hdx, hdy]
        have kb : KeptBut P s1.heap u.heap := fun q o hq e => by
          have hlt : q < s1.heap.objs.size := Heap.lt_size e
          rw [hn] at hlt
          refine hkp q (List.mem_range.mpr ?_) (out4 hlt) o (hhref q o (kept3 q o hq e))
          exact Nat.lt_of_lt_of_le (Heap.lt_size (zk _ _ e)) hsz
        have bk : ∀ q o, X.base.get? q = some o → u.heap.get? q = some o := fun q o e => kb q o (notP q o e) (I1.bk q o e)
        have qe : Qe X.K X.mg (genEnv scope (cloFrom X.env.cells scope.names []) h3.objs.size code builtinsNs X.env) m u :=
          ⟨S.kind, I1.ok.glob, rfl, hns, I1.mod.kin.keeps bk, I1.mod.glob.keeps bk, let ⟨mb, y1, y2⟩ := I1.mod.blt; ⟨mb, y1.keeps bk, y2⟩, I1.mod.nolimit.keeps bk⟩
        exact thn (hel pins σ H1 s1 ps dx dy vx vy va vb _ A' E' u m I1 hP tx ty rx ry (hok (dx, dy) (List.mem_of_getElem? hz2)) hA' hdp hun rfl qe hma hmb kb) fun y u' r => ⟨⟨_, hz2, r.1⟩, r.2⟩
    · intro g h5 tk5 gs hgb hag hsz5 hk5 W5 hat
      simp only [GxR.passing_true, List.length_range] at W5
      rw [hnn] at W5 hat
      refine hQ ds es H1 g _ q1 ⟨_, _, _, _, _, W5.in4_1, hat, ?_, fun u' hm => ?_⟩
      · intro j y sj Qj Ej hy hQj
        obtain ⟨i, hij, p, hp, rfl⟩ := hy
        obtain ⟨hj, ej⟩ := List.getElem?_eq_some_iff.mp hij
        rw [List.getElem_range] at ej
        subst ej
        have hQ2 : Qj (trZ f (ds.zip es) j) sj := hQj
        rw [trZ_some hp] at hQ2
        exact wpAny_truthy_bool hQ2
      · obtain ⟨more, em⟩ := hmore
        have nwr : ∀ q o, s1.heap.get? q = some o → q ∉ h3.objs.size :: [n + 4, n + 3, n, n + 1] := fun q o e hb => by
          have hl : q < s1.heap.objs.size := Heap.lt_size e
          rw [hn] at hl
          rcases List.mem_cons.mp hb with z | z
          · have := Heap.lt_size (zk _ _ e)
            rw [z] at this
            exact absurd (Nat.lt_of_lt_of_le this hsz) (Nat.lt_irrefl _)
          · exact out4 hl z
        have J := GxR.inv_tab (more := more) (h' := u'.heap) (g' := u'.gens) (d' := u'.drawn) (t' := u'.toks) I1 hP (fun q o hb e => hm.heap q o (nwr q o e) (hk5 q o (kept3 q o hb e)))
          (by rw [← em]; exact hm.heap P _ (nwr P _ hPs) (hk5 P _ hP3)) (AllBare.movedS (I1.bare.push hgb) hm)
        rw [GxR.sh_eta s1 u' hm.os] at J
        exact ⟨upd H1 P (.tbl (ps ++ more)), ⟨⟨ps ++ more, upd_same, by rw [← em]; exact ht3⟩, fun b hb => upd_ne hb⟩, J⟩
  refine ⟨limz, ?_⟩
  cases hf : codeAmong gpos ps.toList with
  | none =>
    refine wpAny_genexprCodeX hcode (cd.code hPz ht) (cd.tab hPz) hf fun c' h' tk hx hge hlt hco' _ htab' _ => ?_
    obtain ⟨o1, vs, f1, tf, fl, tg, inF, tx, tt, op, _, _, _, _, _, _, _, _, _, htr, _⟩ := hco'
    exact cont _ h' tk _ hx (Nat.le_trans hge (Nat.le_of_lt hlt)) htab'.2 ⟨_, rfl⟩ htr
  | some cv =>
    refine wpAny_genexprCode_hit hcode (cd.code hPz ht) hf ?_
    exact cont cv hz s1.toks ps (Heap.ExtBut.refl _ _) (Nat.le_refl _) hPz ⟨#[], by simp⟩ ht
end
end Pk
end
/-! are_numbers. -/
namespace Pk
open PySem PySem.Spec PyProof.Rows L2
section
variable {X : Cx}
/-- all(test for x, y in zip(e1, e2)) -/
def tAllZ (P : Addr) (f : PyData → PyData → Bool) (ok : PyData → PyData → Prop) (ta : TA) : TE := fun σ H Q => ta σ H fun vs H1 => ∃ (a b : Addr) (xs ys : List V) (ds es : List PyData), vs = [.ref a, .ref b] ∧ Rd H1 a (.tup xs) ∧ Rd H1 b (.tup ys) ∧ TrAll H1 xs ds ∧ TrAll H1 ys es ∧ (∀ p ∈ ds.zip es, ok p.1 p.2) ∧ GxR.TabG H1 P ∧
  ∀ H2, GxR.Tabbed P H1 H2 → Q (.bl ((ds.zip es).all fun p => f p.1 p.2)) H2
theorem pe_allZ {c P : Addr} {elt e1 e2 : Expr} {xa xb : Str} {pa pb pt pz gpos ipos p pos : Pos} {kt : Nat} {scope : Scope} {ta : TA} {k : Nat} {f : PyData → PyData → Bool} {ok : PyData → PyData → Prop}
    (hr : Room k X.A) (hgA : Gl X "all") (hmA : X.mg "all" = none) (hb : bootBuiltins "all" = some (.builtin "all")) (TB : GxR.TabB X.base X.mg c P) (hcode : X.env.code = .ref c) (S : GenZ X.env scope xa xb) (hg : Gl X "zip") (hm : X.mg "zip" = none) (ha : PA X [e1, e2] ta) (hel : EltZ X P scope xa xb elt f ok)
    (hs : ∀ v, genFold (.Call (.Name "zip" pz) [e1, e2] [] ipos) X.env v = pure v) (hst : starEach [e1, e2] X.env = (false, eval e1 X.env) :: starEach [e2] X.env := by rfl) (hpl : (backTo ipos (starEach [e2] X.env)).any (·.1) = false := by rfl)
    (he : starEach [.GeneratorExp elt [⟨.Tuple [.Name xa pa, .Name xb pb] kt pt, .Call (.Name "zip" pz) [e1, e2] [] ipos, [], 0⟩] scope gpos] X.env = (false, eval (.GeneratorExp elt [⟨.Tuple [.Name xa pa, .Name xb pb] kt pt, .Call (.Name "zip" pz) [e1, e2] [] ipos, [], 0⟩] scope gpos) X.env) :: starEach [] X.env := by rfl) :
    PE X (.Call (.Name "all" p) [.GeneratorExp elt [⟨.Tuple [.Name xa pa, .Name xb pb] kt pt, .Call (.Name "zip" pz) [e1, e2] [] ipos, [], 0⟩] scope gpos] [] pos) (tAllZ P f ok ta) := by
  refine ⟨fun pins s σ H Q I h => wpAny_Call_Name_kw (ld_blt I hgA hmA hb ?_)⟩
  refine PyProof.Rows.callWith_builtin1 ?_ he (by rfl)
  rw [he]
  show wpAny _ _ (spliced ((false, eval (.GeneratorExp elt [⟨.Tuple [.Name xa pa, .Name xb pb] kt pt, .Call (.Name "zip" pz) [e1, e2] [] ipos, [], 0⟩] scope gpos) X.env) :: backTo pos (starEach [] X.env))) _ _ s
  refine Calls.spliced_cons (gen_zip (R := fun ds es H1 => ∀ H2, GxR.Tabbed P H1 H2 → Q (.bl ((ds.zip es).all fun p => f p.1 p.2)) H2) hr TB hcode S hg hm ha hel hs hst hpl I h fun ds es H1 g u hR hG => Calls.spliced_nil ?_)
  obtain ⟨fp, wr, G, F, St, W, h0, htr, hI⟩ := hG
  refine call_all_walkS (W.self 0 _ _ _ h0 ⟨g, fp, wr, G, _, F, St, _, rfl, W, h0, htr, fun u' hmv => ?_⟩)
  obtain ⟨H2, hT, J⟩ := hI u' hmv
  refine ⟨.bl _, H2, J, rfl, ?_⟩
  rw [all_trZ]
  exact hR H2 hT
end
abbrev sAreN : Stmt := topH 39
/-- a number of a dial's span -/
def numD : PyData → PyData → Bool
  | .tuple [_, .int lo, .int hi, _, _, _], d => wholeD lo hi d
  | _, _ => false
def spanOk (d _e : PyData) : Prop := ∃ n lo hi w u v, d = .tuple [n, .int lo, .int hi, w, u, v]
/-- numbers of these dials -/
def numsD (ds : List PyData) : PyData → Bool
  | .tuple es => decide (es.length = ds.length) && ((ds.zip es).all fun p => numD p.1 p.2)
  | _ => false
def scNum : Scope := { kind := .function, names := [((".0" : Str), NameKind.local), (("dial" : Str), NameKind.local), (("number" : Str), NameKind.local), (("is_whole" : Str), NameKind.globalImplicit)], isGenerator := true, isCoroutine := false }
theorem gzNum (env : Env) : GenZ env scNum "dial" "number" := by
  refine ⟨rfl, rfl, by decide +kernel, rfl, rfl, rfl, by decide, fun y hy e => ?_⟩
  have h : ∀ y ∈ scNum.names, y.2 ≠ .free := by decide +kernel
  exact absurd e (h y hy)
/-- x[j], x a local that holds a tuple -/
theorem q_ix {P : Program} {w : World} {K : PySem.W.Frag} {mg : Str → Option Value} {A : Around} {E : Value → Shared → Prop} {env : Env} {m : Str → Option Value} {s : Shared} {Q : Value → Shared → Prop} {x : Str} {p1 p2 pos : Pos} {kk : Nat} {a : Addr} {its : List Value} {i : Int} {j : Nat} {v : Value}
    (q : Qe K mg env m s) (hl : env.scope.names.lookup x = some .local) (hm : m x = some (.ref a)) (ht : IsTup s.heap a its.toArray) (hi0 : 0 ≤ i) (hi1 : i < 1000) (ej : j = i.toNat) (hj : its[j]? = some v) (h : Q v { s with toks := s.toks + 1 }) (hd : (x == ("__debug__" : Str)) = false := by decide) :
    wpAny (model P w) A (eval (.Subscript (.Name x p1) (.Constant (.int i) kk p2) pos) env) Q E s := by
  subst ej
  refine Subscript_ (q_loc q hl hm (wpAny_Constant_int ?_) hd)
  have hlt : i.toNat < its.length := (List.getElem?_eq_some_iff.mp hj).1
  refine subscriptTail_builtinR (x := v) (show ({ s with toks := s.toks + 1 } : Shared).TypeIs (.ref a) "tuple" from ht.typeIs) slot_tuple_getitem.lookup (getItem_tuple (s := { s with toks := s.toks + 1 }) (j := i.toNat) (Q := fun r s' => r = v ∧ Q r s') ht (by omega) (by omega) ?_ (by simpa using hj) ⟨rfl, h⟩) (by with_unfolding_all rfl)
  rw [List.size_toArray]
  exact seqIx hi0 (by omega)
theorem elt_num {X : Cx} {Pt f : Addr} {fd : FuncData} {p0 p1 p2 p3 p4 p5 p6 p7 p8 : Pos} {k1 k2 : Nat} (F : Fun X.K "is_whole" "is_whole" sWhole f fd) (bG : Binds X.K fd ["thing", "low", "high"] []) (mG : X.mg "is_whole" = some (.ref f)) (kG : PySem.W.keepIn X.K (.ref f) = true) (B : BltH X.mg) (hroom : X.A.depth + 1 < recursionLimit) :
    EltZ X Pt scNum "dial" "number" (.Call (.Name "is_whole" p0) [.Name "number" p1, .Subscript (.Name "dial" p2) (.Constant (.int 1) k1 p3) p4, .Subscript (.Name "dial" p5) (.Constant (.int 2) k2 p6) p7] [] p8) numD spanOk := by
  intro pins σ H1 s1 ps dx dy vx vy ux uy cenv A' E' u m I hP tx ty rx ry hok hh hdp hun hsc qe ma mb kb
  obtain ⟨n, lo, hi, w, u1, u2, rfl⟩ := hok
  cases tx with
  | @tup a xs _ ha al =>
    revert ha
    match xs, al with
    | [x0, _, _, x3, x4, x5], .cons _ (.cons (.int _) (.cons (.int _) (.cons _ (.cons _ (.cons _ .nil))))) =>
      intro ha
      cases (show ux = Value.ref a from rx)
      obtain ⟨its, rv, pt, _⟩ := I.tuple ((.inl ha))
      have pt' : IsTup u.heap a its.toArray := by
        obtain ⟨o, e, r⟩ := pt
        exact ⟨o, kb _ _ (ha.ne hP) e, r⟩
      obtain ⟨v1, e1, r1⟩ := rv.get (i := 1) rfl
      obtain ⟨v2, e2, r2⟩ := rv.get (i := 2) rfl
      obtain ⟨t1, rfl⟩ := (show ∃ t, v1 = Value.int lo t from r1)
      obtain ⟨t2, rfl⟩ := (show ∃ t, v2 = Value.int hi t from r2)
      have sc1 : cenv.scope.names.lookup ("number" : Str) = some .local := by rw [hsc]; rfl
      have sc2 : cenv.scope.names.lookup ("dial" : Str) = some .local := by rw [hsc]; rfl
      have sc3 : cenv.scope.names.lookup ("is_whole" : Str) = some .globalImplicit := by rw [hsc]; rfl
      obtain ⟨Pz, Z, pz, nl⟩ := ty.kitAt I ry hP
      refine wpAny_Call_Name_kw (q_glob qe sc3 mG (PySem.W.callWith_K (h₀ := u.heap) qe.kin kG (Calls.spliced_cons (q_loc qe sc1 mb (Calls.spliced_cons (q_ix (a := a) (its := its) (j := 1) qe sc2 ma pt' (by decide) (by decide) rfl e1 (Calls.spliced_cons (q_ix (a := a) (its := its) (j := 2) (qe.tok _) sc2 ma pt' (by decide) (by decide) rfl e2 (Calls.spliced_nil ?_))))))) (by rfl) (by rfl)))
      refine ⟨qe.kin, wpAny_call (codeAny_mono (quietWhole F bG B (s := { u with toks := u.toks + 1 + 1 }) qe.kin qe.gns qe.bns qe.noL (by omega) Z (fun h' k => pz h' fun b o hb e => k b o (kb b o hb e)) nl (fun i e => ?_)) fun r s' hr => ?_)⟩
      · subst e
        cases ty with
        | int i => exact ry
      · obtain ⟨rfl, h', tk, e, hk⟩ := hr
        exact ⟨rfl, h', tk, by rw [e], hk⟩
end Pk
/-! are_numbers, check_house. -/
namespace Pk
open PySem L2
def spAreN (Pt : Addr) : Sp := fun vs H Q _ => ∃ (h : Addr) (x : V) (ds rs : List PyData) (d : PyData), vs = [.ref h, x] ∧ Tr H (.ref h) (.tuple [.tuple ds, .tuple rs]) ∧ ds.length ≤ 12 ∧ (∀ e ∈ ds, DialG e) ∧ Tr H x d ∧ GxR.TabG H Pt ∧ ∀ H', Gr Pt H H' → Q (.bl (numsD ds d)) H'
theorem dial_span {d e : PyData} (h : DialG d) : spanOk d e := by
  obtain ⟨nm, way, lo, hi, up, dn, rfl, _⟩ := h
  exact ⟨_, _, _, _, _, _, rfl⟩
theorem nums_not {ds : List PyData} {d : PyData} (h : tupD (ds.length : Int) (ds.length : Int) d = false) : numsD ds d = false := by
  cases d with
  | tuple es =>
    show (decide (es.length = ds.length) && _) = false
    rw [decide_eq_false (fun e => ?_)]
    · rfl
    · rw [tupD, e, decide_eq_true (Int.le_refl _)] at h
      cases h
  | _ => rfl
theorem nums_tup {ds : List PyData} {d : PyData} (h : tupD (ds.length : Int) (ds.length : Int) d = true) : ∃ es, d = .tuple es ∧ es.length = ds.length ∧ numsD ds d = (ds.zip es).all fun p => numD p.1 p.2 := by
  cases d with
  | tuple es =>
    rw [tupD, Bool.and_eq_true, decide_eq_true_eq, decide_eq_true_eq] at h
    have e : es.length = ds.length := by omega
    refine ⟨es, rfl, e, ?_⟩
    show (decide (es.length = ds.length) && _) = _
    rw [decide_eq_true e]
    rfl
  | _ => cases h
section
variable {P : Program} {w : World} {K : PySem.W.Frag} {mg : Str → Option Value} {base : Heap} {Pt : Addr}
theorem scAreN : FnScope ["house", "thing", "dials"] ["house", "thing"] (defScope sAreN) := ⟨rfl, rfl, rfl, by decide +kernel, rfl, by decide +kernel, by decide +kernel⟩
theorem ok_areN {f c g1 g2 : Addr} {d1 d2 : FuncData} {oc : Value} {od an : Option Addr} {osl : Array (Option Value)} {kV doc pm ct : Value} (lk : K.lookup f = some ⟨oc, od, .func (PySem.W.fnOf "are_numbers" "are_numbers" (defArgs sAreN) (defBody sAreN) (defScope sAreN) .none kV doc pm an (.ref c) ct), osl⟩) (hcd : PySem.W.codeIn K (.ref c) "are_numbers" = true)
    (TB : GxR.TabB base mg c Pt) (B : BltH mg) (mz : mg "zip" = none)
    (F1 : Fun K "is_whole" "is_whole" sWhole g1 d1) (b1 : Binds K d1 ["thing", "low", "high"] []) (k1 : PySem.W.keepIn K (.ref g1) = true) (m1 : mg "is_whole" = some (.ref g1))
    (G2 : FnOk P w K mg base CX0 1 g2 d2 ["thing", "least", "most"] spTupOf) (b2 : Binds K d2 ["thing", "least", "most"] []) (k2 : PySem.W.keepIn K (.ref g2) = true) (m2 : mg "is_tuple_of" = some (.ref g2)) :
    FnOk P w K mg base CX0 3 f (PySem.W.fnOf "are_numbers" "are_numbers" (defArgs sAreN) (defBody sAreN) (defScope sAreN) .none kV doc pm an (.ref c) ct) ["house", "thing"] (spAreN Pt) := by
  refine fn_of lk hcd scAreN (fun vs H Q E h => ?_) (fun A outer s H vs Q E hr h => ?_)
  · obtain ⟨h, x, ds, rs, d, rfl, _⟩ := h
    rfl
  obtain ⟨h, x, ds, rs, d, rfl, th, hl, hd, td, tg, k⟩ := h
  have hr1 : Room 1 _ := hr.mono (by decide)
  have hroom : (A.deeper (PyProof.Rows.envOfC "are_numbers" (defScope sAreN) s.heap.objs.size f (.ref c))).depth + 1 < recursionLimit := by
    have := hr.dp
    omega
  refine ⟨_, PSs.nox (pss_cons (ps_set (i := 2) scAreN.nd rfl (.inl rfl) (pe_ix ix_tup (pv 0) pe_int (fun _ _ => rfl))) <|
    pss_cons (ps_if (pt_not (pt_val (pe_call G2 hr1 rfl m2 k2 b2 .nil pass0 (pa_cons (pv 1) (pa_cons (pe_callB call_len_seq (by rfl) B.len PySem.boot_len (pa_cons (pv 2) pa_nil)) (pa_cons (pe_callB call_len_seq (by rfl) B.len PySem.boot_len (pa_cons (pv 2) pa_nil)) pa_nil)))))) (pss_one (ps_ret pe_bl)) pss_nil) <|
    pss_one (ps_ret (pe_allZ hr (by rfl) B.all (by decide +kernel) TB rfl (gzNum _) (by rfl) mz (pa_cons (pv 2) (pa_cons (pv 1) pa_nil)) (elt_num F1 b1 m1 k1 B hroom) (fun _ => rfl)))), ?_⟩
  cases th with
  | @tup _ xs _ ha al =>
    revert ha
    match xs, al with
    | [_, _], .cons (@Tr.tup _ a ys _ hA alA) (.cons tR .nil) =>
      intro ha
      have ly := alA.length
      refine ⟨_, rfl, h, _, _, _, rfl, rfl, (.inl ha), (rfl : atI [V.ref a, _] 0 = some (.ref a)), ?_⟩
      refine ⟨_, rfl, _, rfl, a, _, rfl, .inr ((.inl hA)), _, rfl, a, _, rfl, .inr ((.inl hA)), x, d, _, _, rfl, td, _, rfl, ?_⟩
      rw [ly]
      cases c1 : tupD (ds.length : Int) (ds.length : Int) d with
      | false =>
        have q := k H (Gr.refl tg)
        rw [nums_not c1] at q
        exact iteT q
      | true =>
        obtain ⟨es, rfl, le, en⟩ := nums_tup c1
        cases td with
        | @tup b zs _ hB alB =>
          refine iteF ⟨_, rfl, _, rfl, a, b, ys, zs, ds, es, rfl, hA, hB, alA, alB, fun p hp => dial_span (hd p.1 (List.of_mem_zip (show (p.1, p.2) ∈ ds.zip es from hp)).1), tg, fun H2 tb => ?_⟩
          have q := k H2 (Gr.of tb)
          rw [en] at q
          exact q
end
end Pk
section
set_option maxHeartbeats 2000000
/-! dict(zip(a, b)), a a list, b a tuple; any two iterators that draw. -/
namespace Pk
open PySem
section
variable {prog : Program} {w : World} {A : Around} {E : Value → Shared → Prop} {s : Shared} {z TI TO i1 i2 T : Addr} {fp1 fp2 : List Addr} {n1 n2 i : Nat} {P1 P2 : Nat → Value → Prop} {St1 St2 : Nat → Heap → Prop} {f : Bool} {oT : Obj}
theorem heldItem {Q : Value → Shared → Prop} (S : ZipSep2 z TI TO i1 i2 fp1 fp2) (D1 : Draws prog w A i1 fp1 n1 P1 St1) (D2 : Draws prog w A i2 fp2 n2 P2 St2) (hz : IsZipHeld s.heap z TI TO T f) (hT : s.heap.get? T = some oT) (hI : IsPair s.heap TI (.ref i1) (.ref i2))
    (st1 : St1 i s.heap) (st2 : St2 i s.heap) (l1 : i < n1) (l2 : i < n2)
    (k : ∀ x1 x2 h' tk, P1 i x1 → P2 i x2 → IsZipHeld h' z TI TO T true → St1 (i + 1) h' → St2 (i + 1) h' → IsPair h' s.heap.objs.size x1 x2 → (∀ c o, c ≠ z → c ≠ i1 → c ≠ i2 → s.heap.get? c = some o → h'.get? c = some o) → Q (.ref s.heap.objs.size) { s with heap := h', toks := tk }) :
    wpAny (model prog w) A (Builtin.«zip.__next__» ⟨[.ref z], []⟩) (fun fin s' => ∃ v, fin = .done (.ret v) ∧ Q v s') E s := by
  show wpAny _ _ (field (.ref z) 2 >>= _) _ _ _
  refine wpAny_bind (wpAny_field hz rfl (x := .bool false) rfl ?_)
  show wpAny _ _ (field (.ref z) 3 >>= _) _ _ _
  refine wpAny_bind (wpAny_field hz rfl (x := .ref TI) rfl (wpAny_bind (wpAny_seqItems hI rfl ?_)))
  show wpAny _ _ (Builtin.SmallTypes.ownedTupleIsFree (.ref z) >>= _) _ _ _
  refine wpAny_bind (wpAny_tupleHeld_zip hz hT fun g1 y1 e1 => ?_)
  simp only [Bool.false_eq_true, if_false]
  refine wpAny_bind ?_
  rw [← Array.forIn_toList]
  simp only [List.forIn_cons, List.forIn_nil]
  refine wpAny_bind (wpAny_bind (wpAny_holding ?_))
  show wpAny _ _ (Builtin.SmallTypes.nextOf (.ref i1) >>= _) _ _ _
  refine wpAny_bind (D1.item i { s with heap := g1 } _ _ l1 (D1.over st1 e1 S.zf1) fun x1 g2 t2 p1 d1 e2 => wpAny_pure (wpAny_pure ?_))
  refine wpAny_bind (wpAny_bind (wpAny_holding ?_))
  show wpAny _ _ (Builtin.SmallTypes.nextOf (.ref i2) >>= _) _ _ _
  have d2 : St2 i g2 := D2.over (D2.over st2 e1 S.zf2) e2 S.sep1_2
  refine wpAny_bind (D2.item i { s with heap := g2, toks := t2 } _ _ l2 d2 fun x2 g3 t3 p2 d3 e3 => wpAny_pure (wpAny_pure (wpAny_pure ?_)))
  show wpAny _ _ (newTuple [x1, x2] >>= _) _ _ _
  refine wpAny_bind (wpAny_newTuple (wpAny_pure ⟨_, rfl, ?_⟩))
  have sz : g3.objs.size = s.heap.objs.size := by rw [e3.1, e2.1, e1.1]
  have y3 : IsZipHeld g3 z TI TO T true := e3.extBut _ _ S.zi2 (e2.extBut _ _ S.zi1 y1)
  have d4 : St1 (i + 1) g3 := D1.over d1 e3 S.sep2_1
  have hp : IsPair (g3.push { cls := .type "tuple", data := .seq #[x1, x2] }) g3.objs.size x1 x2 := Heap.get?_push_size _ rfl
  show Q (.ref g3.objs.size) _
  rw [sz] at hp ⊢
  exact k x1 x2 _ _ p1 p2 (Heap.get?_push_of_some _ y3) (D1.frame _ _ _ d4 fun b _ o q => Heap.get?_push_of_some _ q) (D2.frame _ _ _ d3 fun b _ o q => Heap.get?_push_of_some _ q) hp fun c o c1 c2 c3 q => Heap.get?_push_of_some _ (e3.extBut _ _ c3 (e2.extBut _ _ c2 (e1.extBut _ _ c1 q)))
theorem heldEnd {Q : Fin → Shared → Prop} (S : ZipSep2 z TI TO i1 i2 fp1 fp2) (D1 : Draws prog w A i1 fp1 n1 P1 St1) (D2 : Draws prog w A i2 fp2 n2 P2 St2) (hz : IsZipHeld s.heap z TI TO T f) (hT : s.heap.get? T = some oT) (hI : IsPair s.heap TI (.ref i1) (.ref i2))
    (st1 : St1 i s.heap) (st2 : St2 i s.heap) (hl1 : i ≤ n1) (hl2 : i ≤ n2) (he : i = n1 ∨ i = n2)
    (k : ∀ h' tk e, (∀ c o, c ≠ z → c ≠ i1 → c ≠ i2 → s.heap.get? c = some o → h'.get? c = some o) → (∃ o, h'.get? e = some o ∧ o.cls = .type "StopIteration") → E (.ref e) { s with heap := h', toks := tk }) :
    wpAny (model prog w) A (Builtin.«zip.__next__» ⟨[.ref z], []⟩) Q E s := by
  show wpAny _ _ (field (.ref z) 2 >>= _) _ _ _
  refine wpAny_bind (wpAny_field hz rfl (x := .bool false) rfl ?_)
  show wpAny _ _ (field (.ref z) 3 >>= _) _ _ _
  refine wpAny_bind (wpAny_field hz rfl (x := .ref TI) rfl (wpAny_bind (wpAny_seqItems hI rfl ?_)))
  show wpAny _ _ (Builtin.SmallTypes.ownedTupleIsFree (.ref z) >>= _) _ _ _
  refine wpAny_bind (wpAny_tupleHeld_zip hz hT fun g1 y1 e1 => ?_)
  simp only [Bool.false_eq_true, if_false]
  refine wpAny_bind ?_
  rw [← Array.forIn_toList]
  simp only [List.forIn_cons, List.forIn_nil]
  refine wpAny_bind (wpAny_bind (wpAny_holding ?_))
  show wpAny _ _ (Builtin.SmallTypes.nextOf (.ref i1) >>= _) _ _ _
  by_cases c1 : i = n1
  · subst c1
    refine wpAny_bind (D1.done { s with heap := g1 } _ _ (D1.over st1 e1 S.zf1) fun g2 e x2 ho => ?_)
    exact k g2 s.toks e (fun c o a1 a2 _ q => x2 _ _ a2 (e1.extBut _ _ a1 q)) ho
  · have c2 : i = n2 := by rcases he with q | q; exact absurd q c1; exact q
    refine wpAny_bind (D1.item i { s with heap := g1 } _ _ (by omega) (D1.over st1 e1 S.zf1) fun x1 g2 t2 p1 d1 e2 => wpAny_pure (wpAny_pure ?_))
    refine wpAny_bind (wpAny_bind (wpAny_holding ?_))
    show wpAny _ _ (Builtin.SmallTypes.nextOf (.ref i2) >>= _) _ _ _
    have d2 : St2 i g2 := D2.over (D2.over st2 e1 S.zf2) e2 S.sep1_2
    subst c2
    refine wpAny_bind (D2.done { s with heap := g2, toks := t2 } _ _ d2 fun g3 e x3 ho => ?_)
    exact k g3 t2 e (fun c o a1 a2 a3 q => x3 _ _ a3 (e2.extBut _ _ a2 (e1.extBut _ _ a1 q))) ho
end
/-- a zip of two iterators that draw, as what dict() is made of -/
theorem pairZip {prog : Program} {w : World} {z TI TO i1 i2 : Addr} {fp1 fp2 : List Addr} {n1 n2 : Nat} {P1 P2 : Nat → Value → Prop} {St1 St2 : Nat → Heap → Prop} (S : ZipSep2 z TI TO i1 i2 fp1 fp2)
    (D1 : ∀ A : Around, A.handled = none → Draws prog w A i1 fp1 n1 P1 St1) (D2 : ∀ A : Around, A.handled = none → Draws prog w A i2 fp2 n2 P2 St2) (L1 : ∀ h, St1 0 h → ∀ b ∈ fp1, ∃ o, h.get? b = some o) (L2 : ∀ h, St2 0 h → ∀ b ∈ fp2, ∃ o, h.get? b = some o) :
    PairArg prog w "zip" z (z :: TI :: TO :: (fp1 ++ fp2)) [z, TO, i1, i2] (min n1 n2) (fun i k v => P1 i k ∧ P2 i v) (fun h => IsZip h z TI TO .none ∧ IsPair h TI (.ref i1) (.ref i2) ∧ (∃ a b, IsPair h TO a b) ∧ St1 0 h ∧ St2 0 h) where
  type := fun s ok => ⟨_, ok.1, rfl⟩
  notDict := by decide
  keep := fun h h' ok hk => by
    obtain ⟨hz, hI, ⟨a, b, hO⟩, s1, s2⟩ := ok
    exact ⟨hk _ _ hz, hk _ _ hI, ⟨a, b, hk _ _ hO⟩, (D1 callerA rfl).frame _ _ _ s1 fun b _ o e => hk b o e, (D2 callerA rfl).frame _ _ _ s2 fun b _ o e => hk b o e⟩
  there := fun h ok b hb => by
    obtain ⟨hz, hI, ⟨a, c, hO⟩, s1, s2⟩ := ok
    rcases List.mem_cons.mp hb with e | hb
    · rw [e]; exact ⟨_, hz⟩
    rcases List.mem_cons.mp hb with e | hb
    · rw [e]; exact ⟨_, hI⟩
    rcases List.mem_cons.mp hb with e | hb
    · rw [e]; exact ⟨_, hO⟩
    rcases List.mem_append.mp hb with hb | hb
    · exact L1 h s1 b hb
    · exact L2 h s2 b hb
  sub := fun b hb => by
    simp only [List.mem_cons, List.not_mem_nil, or_false] at hb
    rcases hb with rfl | rfl | rfl | rfl
    · exact List.mem_cons_self
    · exact List.mem_cons_of_mem _ (List.mem_cons_of_mem _ List.mem_cons_self)
    · exact List.mem_cons_of_mem _ (List.mem_cons_of_mem _ (List.mem_cons_of_mem _ (List.mem_append_left _ S.mem1)))
    · exact List.mem_cons_of_mem _ (List.mem_cons_of_mem _ (List.mem_cons_of_mem _ (List.mem_append_right _ S.mem2)))
  noKeys := fun A s Q E hA ok h => getAttrOr_miss_zip ok.1 rfl rfl rfl zip_no_keys (by decide +kernel) hA h
  iter := fun A s d Q E hA ok hd hdf h => by
    obtain ⟨hz, hI, ⟨a, b, hO⟩, s1, s2⟩ := ok
    have dz : d ≠ z := fun e => hdf (by rw [e]; exact List.mem_cons_self)
    have dI : d ≠ TI := fun e => hdf (by rw [e]; exact List.mem_cons_of_mem _ List.mem_cons_self)
    have dO : d ≠ TO := fun e => hdf (by rw [e]; exact List.mem_cons_of_mem _ (List.mem_cons_of_mem _ List.mem_cons_self))
    have d1 : ∀ b ∈ fp1, b ≠ d := fun b hb e => hdf (List.mem_cons_of_mem _ (List.mem_cons_of_mem _ (List.mem_cons_of_mem _ (List.mem_append_left _ (e ▸ hb)))))
    have d2 : ∀ b ∈ fp2, b ≠ d := fun b hb e => hdf (List.mem_cons_of_mem _ (List.mem_cons_of_mem _ (List.mem_cons_of_mem _ (List.mem_append_right _ (e ▸ hb)))))
    refine wpAny_pyIter_zip hz (h z [z, TO, i1, i2] (fun i g => IsPair g TI (.ref i1) (.ref i2) ∧ St1 i g ∧ St2 i g ∧ ((IsZip g z TI TO .none ∧ ∃ a b, IsPair g TO a b) ∨ ∃ T f oT, IsZipHeld g z TI TO T f ∧ g.get? T = some oT ∧ T ≠ z ∧ T ≠ i1 ∧ T ≠ i2 ∧ T ≠ d)) s.heap s.toks ?_ ⟨hI, s1, s2, .inl ⟨hz, a, b, hO⟩⟩ (fun _ _ e => e) fun b hb => .inl hb)
    refine ⟨fun hm => ?_, fun i g g' st hk => ?_, fun i u Q1 E1 hi st hds hQ => ?_, fun u Q1 E1 st hQ => ?_⟩
    · simp only [List.mem_cons, List.not_mem_nil, or_false] at hm
      rcases hm with e | e | e | e
      · exact dz e
      · exact dO e
      · exact d1 i1 S.mem1 e.symm
      · exact d2 i2 S.mem2 e.symm
    · obtain ⟨hI, s1, s2, hz⟩ := st
      refine ⟨hk _ _ dI.symm hI, (D1 callerA rfl).frame _ _ _ s1 fun b hb o e => hk b o (d1 b hb) e, (D2 callerA rfl).frame _ _ _ s2 fun b hb o e => hk b o (d2 b hb) e, ?_⟩
      rcases hz with ⟨hz, a, b, hO⟩ | ⟨T, f, oT, hz, hT, r1, r2, r3, r4⟩
      · exact .inl ⟨hk _ _ dz.symm hz, a, b, hk _ _ dO.symm hO⟩
      · exact .inr ⟨T, f, oT, hk _ _ dz.symm hz, hk _ _ r4 hT, r1, r2, r3, r4⟩
    · obtain ⟨hI, s1, s2, hz⟩ := st
      have hi1 : i < n1 := by omega
      have hi2 : i < n2 := by omega
      have lt : ∀ {c : Addr} {o : Obj}, u.heap.get? c = some o → u.heap.objs.size ≠ c := fun e => Nat.ne_of_gt (Heap.lt_size e)
      have ne1 : u.heap.objs.size ≠ i1 := let ⟨_, e⟩ := (D1 callerA rfl).live _ _ s1; lt e
      have ne2 : u.heap.objs.size ≠ i2 := let ⟨_, e⟩ := (D2 callerA rfl).live _ _ s2; lt e
      have mem : ∀ {c : Addr}, c ∉ [z, TO, i1, i2] → c ≠ z ∧ c ≠ TO ∧ c ≠ i1 ∧ c ≠ i2 := fun {c} hc => by
        simp only [List.mem_cons, List.not_mem_nil, or_false, not_or] at hc
        exact hc
      rcases hz with ⟨hz, a, b, hO⟩ | ⟨T, f, oT, hz, hT, r1, r2, r3, r4⟩
      · refine wpAny_pyNext_zipD2_item S (D1 A.in1 hA) (D2 A.in1 hA) hz hI hO s1 s2 hi1 hi2 fun x1 x2 g tk p1 p2 a1 a2 a3 a4 a5 a6 hk => ?_
        exact hQ u.heap.objs.size x1 x2 g tk ⟨p1, p2⟩ (.inl ⟨_, a5, rfl, _, rfl⟩) ⟨hk _ _ S.TIz S.TITO S.TIi1 S.TIi2 hI, a3, a4, .inr ⟨_, false, _, a1, a5, lt hz, ne1, ne2, Nat.ne_of_gt hds⟩⟩
          fun c o hc e => let ⟨m1, m2, m3, m4⟩ := mem hc; hk c o m1 m2 m3 m4 e
      · have hTy : u.TypeIs (.ref z) "zip" := ⟨_, hz, rfl⟩
        unfold pyNext
        refine wpAny_bind (wpAny_attempt (wpAny_callSpecial?_slot (name := Str.ofString "__next__") hTy F.slot_zip_next (wpAny_call_entry F.slot_zip_next hTy F.entry_zip_next (heldItem S (D1 A.in1 hA) (D2 A.in1 hA) hz hT hI s1 s2 hi1 hi2 fun x1 x2 g tk p1 p2 a1 a3 a4 a5 hk => wpAny_pure ?_) (F.args_zip_next_1 _))))
        exact hQ u.heap.objs.size x1 x2 g tk ⟨p1, p2⟩ (.inl ⟨_, a5, rfl, _, rfl⟩) ⟨hk _ _ S.TIz S.TIi1 S.TIi2 hI, a3, a4, .inr ⟨T, true, oT, a1, hk _ _ r1 r2 r3 hT, r1, r2, r3, r4⟩⟩
          fun c o hc e => let ⟨m1, m2, m3, m4⟩ := mem hc; hk c o m1 m3 m4 e
    · obtain ⟨hI, s1, s2, hz⟩ := st
      have mem : ∀ {c : Addr}, c ∉ [z, TO, i1, i2] → c ≠ z ∧ c ≠ TO ∧ c ≠ i1 ∧ c ≠ i2 := fun {c} hc => by
        simp only [List.mem_cons, List.not_mem_nil, or_false, not_or] at hc
        exact hc
      rcases hz with ⟨hz, a, b, hO⟩ | ⟨T, f, oT, hz, hT, r1, r2, r3, r4⟩
      · exact wpAny_pyNext_zipD2_end S (D1 A.in1 hA) (D2 A.in1 hA) hz hI hO s1 s2 (by omega) (by omega) (by omega) fun g tk hk => hQ g tk fun c o hc e => let ⟨m1, m2, m3, m4⟩ := mem hc; hk c o m1 m2 m3 m4 e
      · have hTy : u.TypeIs (.ref z) "zip" := ⟨_, hz, rfl⟩
        unfold pyNext
        refine wpAny_bind (wpAny_attempt (wpAny_callSpecial?_slot (name := Str.ofString "__next__") hTy F.slot_zip_next (wpAny_call_entry F.slot_zip_next hTy F.entry_zip_next (heldEnd S (D1 A.in1 hA) (D2 A.in1 hA) hz hT hI s1 s2 (by omega) (by omega) (by omega) fun g tk e hk ho => ?_) (F.args_zip_next_1 _))))
        obtain ⟨o, ho, hc⟩ := ho
        refine wpAny_bind (wpAny_isInstance (T := "StopIteration") (b := true) ⟨o, ho, hc⟩ isSubtype_stop ?_)
        exact wpAny_pure (hQ g tk fun c o hc e => let ⟨m1, m2, m3, m4⟩ := mem hc; hk c o m1 m3 m4 e)
/-! zip(a, b), a a list, b a tuple -/
abbrev mix1 (h : Heap) (a : Addr) : Heap := h.push { cls := .type "list_iterator", data := .fields #[.ref a, .int 0 0] }
abbrev mix2 (h : Heap) (a b : Addr) : Heap := (mix1 h a).push { cls := .type "tuple_iterator", data := .fields #[.ref b, .int 0 0] }
abbrev mix3 (h : Heap) (a b : Addr) : Heap := (mix2 h a b).push { cls := .type "tuple", data := .seq #[.ref h.objs.size, .ref (mix1 h a).objs.size] }
abbrev mix4 (h : Heap) (a b : Addr) : Heap := (mix3 h a b).push { cls := .type "tuple", data := .seq #[.none, .none] }
abbrev mix5 (h : Heap) (a b : Addr) : Heap := (mix4 h a b).push { cls := .type "zip", data := .fields #[.none, .bool false, .bool false, .ref (mix2 h a b).objs.size, .ref (mix3 h a b).objs.size] }
theorem mixNew (a b : Addr) (xs ys : Array Value) : Meets (Builtin.«zip.__new__» ⟨[.type "zip", .ref a, .ref b], []⟩) (fun _ R s => s.heap.IsList a xs ∧ s.heap.IsTuple b ys ∧ R (.ok (.ret (.ref (mix4 s.heap a b).objs.size))) { s with heap := mix5 s.heap a b }) :=
  .of_wp fun prog w A R s h => by
    obtain ⟨hp, g, d, tk, os⟩ := s
    obtain ⟨ha, hb, h⟩ := h
    have hsub := sub_zip
    have hA : Heap.IsList (Shared.heap ⟨hp, g, d, tk, os⟩) a xs := ha
    have hB : Heap.IsTuple (Shared.heap ⟨hp.push { cls := .type "list_iterator", data := .fields #[.ref a, .int 0 0] }, g, d, tk, os⟩) b ys := Heap.IsTuple.push hb _
    wp_walk using wpAny_pyIter_list hA, wpAny_pyIter_tuple hB
    exact ⟨_, rfl, h⟩
theorem callMix {prog : Program} {w : World} {A : Around} {E : Value → Shared → Prop} {s : Shared} {a b : Addr} {xs ys : Array Value} {Q : Value → Shared → Prop} (ha : s.heap.IsList a xs) (hb : s.heap.IsTuple b ys)
    (k : ∀ h', IsZip h' (s.heap.objs.size + 4) (s.heap.objs.size + 2) (s.heap.objs.size + 3) .none → IsPair h' (s.heap.objs.size + 2) (.ref s.heap.objs.size) (.ref (s.heap.objs.size + 1)) → IsPair h' (s.heap.objs.size + 3) .none .none →
      h'.IsListIter s.heap.objs.size a 0 → h'.IsTupleIter (s.heap.objs.size + 1) b 0 → (∀ c o, s.heap.get? c = some o → h'.get? c = some o) → Q (.ref (s.heap.objs.size + 4)) { s with heap := h' }) :
    wpAny (model prog w) A (call (.type "zip") [.ref a, .ref b]) Q E s := by
  refine callType_new F.called_zip (by decide) (F.typeCall_zip_2 _ _) (F.newCall_zip_2 _ _) (fun obj => F.args_object_init_3 obj _ _) F.entry_zip_new (mixNew a b xs ys) ⟨ha, hb, ?_⟩
  have y1 : (mix1 s.heap a).objs.size = s.heap.objs.size + 1 := Heap.size_push ..
  have y2 : (mix2 s.heap a b).objs.size = s.heap.objs.size + 2 := by rw [Heap.size_push, y1]
  have y3 : (mix3 s.heap a b).objs.size = s.heap.objs.size + 3 := by rw [Heap.size_push, y2]
  have y4 : (mix4 s.heap a b).objs.size = s.heap.objs.size + 4 := by rw [Heap.size_push, y3]
  have up : ∀ {h : Heap} {o : Obj} {c : Addr} {u : Obj}, h.get? c = some u → (h.push o).get? c = some u := fun e => Heap.get?_push_of_some _ e
  have g5 : (mix5 s.heap a b).get? (mix4 s.heap a b).objs.size = some _ := Heap.get?_push_size _ rfl
  have g4 : (mix5 s.heap a b).get? (mix3 s.heap a b).objs.size = some _ := up (Heap.get?_push_size _ rfl)
  have g3 : (mix5 s.heap a b).get? (mix2 s.heap a b).objs.size = some _ := up (up (Heap.get?_push_size _ rfl))
  have g2 : (mix5 s.heap a b).get? (mix1 s.heap a).objs.size = some _ := up (up (up (Heap.get?_push_size _ rfl)))
  have g1 : (mix5 s.heap a b).get? s.heap.objs.size = some _ := up (up (up (up (Heap.get?_push_size _ rfl))))
  show _ ∧ _
  rw [y2, y3, y4] at g5
  rw [y1, y2] at g3
  rw [y3] at g4
  rw [y1] at g2
  rw [y4]
  exact ⟨⟨_, g5, rfl⟩, k _ g5 g3 g4 ⟨_, g1, rfl, rfl⟩ ⟨_, g2, rfl, rfl⟩ fun c o e => up (up (up (up (up e))))⟩
end Pk
end
section
set_option maxHeartbeats 2000000
/-! The rule for dict(zip(names, things)). -/
namespace Pk
open PySem PySem.Spec PyProof.Rows L2
def strKv (e : Str × V) : Key × V := (Sum.inr e.1, e.2)
def tDictZ (K : PySem.W.Frag) (ta : TA) : TE := fun σ H Q => ta σ H fun vs H1 => ∃ (a b : Addr) (ss : List Str) (ys : List V), vs = [.ref a, .ref b] ∧ SqL K H1 a (ss.map V.str) ∧ SqT K H1 b ys ∧ ss.length = ys.length ∧ ∀ p, H1 p = none → Q (.ref p) (upd H1 p (.dK (mergeK [] ((ss.zip ys).map strKv))))
theorem kv_zip : ∀ {ss : List Str} {ys : List V} {us ws : List Value}, Vals (ss.map V.str) us → Vals ys ws → ss.length = ys.length →
    ∃ prs : List (Key × Value), KV ((ss.zip ys).map strKv) prs ∧ prs.length = ss.length ∧ ∀ (i : Nat) (u v : Value), us[i]? = some u → ws[i]? = some v → ∃ z t, u = .str z t ∧ prs[i]? = some (Sum.inr z, v)
  | [], [], _, _, .nil, .nil, _ => ⟨[], .nil, rfl, fun i u v h => by simp at h⟩
  | [], _ :: _, _, _, _, _, h => by simp at h
  | _ :: _, [], _, _, _, _, h => by simp at h
  | z :: ss, y :: ys, _, _, .cons r t, .cons q t2, h => by
    obtain ⟨prs, k, l, f⟩ := kv_zip t t2 (by simpa using h)
    obtain ⟨tk, rfl⟩ := (show ∃ t, _ = Value.str z t from r)
    refine ⟨(Sum.inr z, _) :: prs, .cons ⟨rfl, q⟩ k, by simp [l], fun i u v h1 h2 => ?_⟩
    cases i with
    | zero =>
      cases h1
      cases h2
      exact ⟨z, tk, rfl, rfl⟩
    | succ i => exact f i u v h1 h2
theorem pe_dictZ {X : Cx} {e1 e2 : Expr} {ta : TA} {p pz pos ipos : Pos} (hc : X.calm = true) (hgd : Gl X "dict") (hmd : X.mg "dict" = none) (hgz : Gl X "zip") (hmz : X.mg "zip" = none) (ha : PA X [e1, e2] ta)
    (hst : starEach [e1, e2] X.env = (false, eval e1 X.env) :: starEach [e2] X.env := by rfl) (hpl : (backTo ipos (starEach [e2] X.env)).any (·.1) = false := by rfl)
    (hs2 : starEach [.Call (.Name "zip" pz) [e1, e2] [] ipos] X.env = (false, eval (.Call (.Name "zip" pz) [e1, e2] [] ipos) X.env) :: starEach [] X.env := by rfl) :
    PE X (.Call (.Name "dict" p) [.Call (.Name "zip" pz) [e1, e2] [] ipos] [] pos) (tDictZ X.K ta) := by
  refine ⟨fun pins s σ H Q I h => wpAny_Call_Name_kw (ld_blt (u := .type "dict") I hgd hmd (by decide +kernel) ?_)⟩
  refine PyProof.Rows.callWith_type1 ?_ hs2 (by rfl)
  rw [hs2]
  show wpAny _ _ (spliced ((false, eval (.Call (.Name "zip" pz) [e1, e2] [] ipos) X.env) :: backTo pos (starEach [] X.env))) _ _ s
  refine Calls.spliced_cons (Call_ (ld_blt I hgz hmz PyProof.Rows.boot_zip (PyProof.Rows.callWith_type1 (thn (ha.run ipos pins s σ H _ I h) fun us s1 ⟨vs, H1, I1, r1, q1⟩ => ?_) hst hpl)))
  obtain ⟨a, b, ss, ys, rfl, hA, hB, hl, q⟩ := q1
  obtain ⟨u1, u2, rfl, ra, rb⟩ := vals2 r1
  cases ra
  cases rb
  obtain ⟨its, rv, p1, z1⟩ := I1.list hA
  obtain ⟨its2, rv2, p2, z2⟩ := I1.tuple hB
  have pl := p1.isList
  have a9 : a < s1.heap.objs.size := let ⟨_, e, _⟩ := pl; Heap.lt_size e
  have b9 : b < s1.heap.objs.size := let ⟨_, e, _⟩ := p2; Heap.lt_size e
  refine callMix pl (show s1.heap.IsTuple b its2.toArray from p2) fun hz y1 y2 y3 y4 y5 zk => ?_
  generalize hn : s1.heap.objs.size = n at a9 b9 y1 y2 y3 y4 y5
  refine Calls.spliced_nil ?_
  have D := PySem.W.ktu_apart n a b a9 b9
  have sep : ZipSep2 (n + 4) (n + 2) (n + 3) n (n + 1) [n, a] [n + 1, b] := by
    refine ⟨D.TIz, D.TOz, D.TITO, D.TIi1, List.mem_cons_self, fun q => ?_, fun q => ?_, D.TIi2, List.mem_cons_self, fun q => ?_, fun q => ?_, fun q => ?_, fun q => ?_⟩ <;> simp only [List.mem_cons, List.not_mem_nil, or_false] at q <;> rcases q with e | e
    · exact D.i1z e.symm
    · exact D.l1z e.symm
    · exact D.TOi1 e
    · exact D.l1TO e.symm
    · exact D.i2z e.symm
    · exact D.l2z e.symm
    · exact D.TOi2 e
    · exact D.l2TO e.symm
    · exact D.i12 e
    · exact D.l2i1 e.symm
    · exact D.i12 e.symm
    · exact D.l1i2 e.symm
  have PA := pairZip (prog := X.prog) (w := X.w) sep (fun A hA => Draws.list hA n a (Nat.ne_of_lt a9) its.toArray) (fun A hA => drawsTup hA (n + 1) b (Nat.ne_of_lt (Nat.lt_succ_of_lt b9)) its2.toArray)
    (fun h st q hq => by
      simp only [List.mem_cons, List.not_mem_nil, or_false] at hq
      rcases hq with e | e
      · rw [e]; obtain ⟨o, ho, _⟩ := st.1; exact ⟨o, ho⟩
      · rw [e]; obtain ⟨o, ho, _⟩ := st.2; exact ⟨o, ho⟩)
    (fun h st q hq => by
      simp only [List.mem_cons, List.not_mem_nil, or_false] at hq
      rcases hq with e | e
      · rw [e]; obtain ⟨o, ho, _⟩ := st.1; exact ⟨o, ho⟩
      · rw [e]; obtain ⟨o, ho, _⟩ := st.2; exact ⟨o, ho⟩)
  have pl' : hz.IsList a its.toArray := let ⟨o, e, r⟩ := pl; ⟨o, zk _ _ e, r⟩
  have p2' : hz.IsTuple b its2.toArray := let ⟨o, e, r⟩ := p2; ⟨o, zk _ _ e, r⟩
  obtain ⟨prs, kv, lp, fp⟩ := kv_zip rv rv2 hl
  have l1 := rv.length
  have l2 := rv2.length
  rw [List.length_map] at l1
  have hnn : min its.toArray.size its2.toArray.size = prs.length := by simp; omega
  refine PySem.call_dict_pairs (knd := mixKind X.prog X.w) (kvs := prs) PA (I1.ok.hd hc) ⟨y1, y2, ⟨_, _, y3⟩, ⟨y4, pl'⟩, ⟨y5, p2'⟩⟩ ⟨hnn.symm, fun i key v hkv => ?_⟩ (by rw [hnn, lp]; rw [List.length_map] at z1; exact z1) fun h' tk hd' hk => ?_
  · obtain ⟨z, t, e1, e2⟩ := fp i key v (by simpa using hkv.1) (by simpa using hkv.2)
    exact ⟨_, e2, by rw [e1]; exact mixKind_str X.prog X.w z t⟩
  · have sz : s1.heap.objs.size ≤ hz.objs.size := by
      rw [hn]
      exact Nat.le_of_lt (Nat.lt_of_le_of_lt (Nat.le_add_right n 4) (Heap.lt_size y1))
    have kp : ∀ b u, s1.heap.get? b = some u → h'.get? b = some u := fun c u e => hk c u (fun hm => by
      have hlt : c < s1.heap.objs.size := Heap.lt_size e
      rw [hn] at hlt
      have q : ∀ {c n : Nat}, c < n → c ≠ n + 4 ∧ c ≠ n + 3 ∧ c ≠ n ∧ c ≠ n + 1 := fun h => by omega
      obtain ⟨m1, m2, m3, m4⟩ := q hlt
      simp only [List.mem_cons, List.not_mem_nil, or_false] at hm
      rcases hm with e | e | e | e
      · exact m1 e
      · exact m2 e
      · exact m3 e
      · exact m4 e) (zk _ _ e)
    have hm : (hz.objs.size == sysModules) = false := beq_eq_false_iff_ne.mpr (Nat.ne_of_gt (Nat.lt_of_lt_of_le I1.big sz))
    have hlen : (mergeK [] ((ss.zip ys).map strKv)).length ≤ sizeLine := by
      refine Nat.le_trans (length_mergeK _ []) ?_
      rw [List.length_nil, Nat.zero_add, kv.length, lp]
      rw [List.length_map] at z1
      exact z1
    exact ⟨.ref hz.objs.size, upd H1 hz.objs.size (.dK (mergeK [] ((ss.zip ys).map strKv))), I1.laid (t' := tk) kp sz (show ObjOk X.prog X.w _ _ _ (.dK (mergeK [] ((ss.zip ys).map strKv))) from ⟨hlen, hm, merged [] prs, KV.merge kv .nil, hd'⟩), rfl, q _ (I1.hok.fresh sz)⟩
end Pk
end
/-! holds, rule_holds; the law's own. -/
namespace Pk
open PySem L2
abbrev sHolds : Stmt := topH 13
abbrev sRuleH : Stmt := topH 14
abbrev sLSaid : Stmt := topH 70
abbrev sLHolds : Stmt := topH 71
theorem inS_is {zs : List Str} {d : PyData} (h : inS zs d = true) : ∃ z ∈ zs, d = .str z := by
  unfold inS at h
  obtain ⟨z, hz, e⟩ := List.any_eq_true.mp h
  exact ⟨z, hz, strIs_is e⟩
theorem whole_is {lo hi : Int} {d : PyData} (h : wholeD lo hi d = true) : ∃ i, d = .int i := by
  cases d with
  | int i => exact ⟨i, rfl⟩
  | _ => cases h
theorem say_is {ns : List Str} {d : PyData} (h : sayingD ns d = true) : ∃ z so i, d = .tuple [.str z, .str so, .int i] ∧ z ∈ ns ∧ so ∈ sorts2 := by
  unfold sayingD at h
  split at h
  · rw [Bool.and_eq_true, Bool.and_eq_true] at h
    obtain ⟨z, hz, rfl⟩ := inS_is h.1
    obtain ⟨so, hs, rfl⟩ := inS_is h.2.1
    obtain ⟨i, rfl⟩ := whole_is h.2.2
    exact ⟨z, so, i, rfl, hz, hs⟩
  · cases h
theorem rule_is {ns : List Str} {d : PyData} (h : ruleD ns d = true) : (∃ p q, d = .tuple [.str "one", p, q] ∧ sayingD ns p = true ∧ sayingD ns q = true) ∨ ∃ w a b c, d = .tuple [.str w, .str a, .str b, .int c] ∧ w ∈ pairs3 ∧ a ∈ ns ∧ b ∈ ns := by
  unfold ruleD at h
  split at h
  · rw [Bool.and_eq_true, Bool.and_eq_true] at h
    exact .inl ⟨_, _, by rw [strIs_is h.1], h.2.1, h.2.2⟩
  · rw [Bool.and_eq_true, Bool.and_eq_true, Bool.and_eq_true, Bool.and_eq_true] at h
    obtain ⟨w, hw, rfl⟩ := inS_is h.1
    obtain ⟨a, ha, rfl⟩ := inS_is h.2.1
    obtain ⟨b, hb, rfl⟩ := inS_is h.2.2.1
    obtain ⟨c, rfl⟩ := whole_is h.2.2.2.2
    exact .inr ⟨w, a, b, c, rfl, hw, ha, hb⟩
  · cases h
theorem pairs_one : ∀ w ∈ pairs3, decide (w = ("one" : Str)) = false := by decide +kernel
def spHolds : Sp := fun vs H Q _ => ∃ (x : V) (d : Addr) (es : List (Str × Int)) (sd : PyData), vs = [x, .ref d] ∧ Tr H x sd ∧ sayingD (es.map (·.1)) sd = true ∧ H d = some (.dK (es.map kvOf)) ∧ Q (.bl (holdsS (lookE es) sd)) H
def spRuleH : Sp := fun vs H Q _ => ∃ (x : V) (d : Addr) (es : List (Str × Int)) (rd : PyData), vs = [x, .ref d] ∧ Tr H x rd ∧ ruleD (es.map (·.1)) rd = true ∧ H d = some (.dK (es.map kvOf)) ∧ Q (.bl (ruleH (lookE es) rd)) H
theorem tup3 {H : Hp} {x : V} {a b c : PyData} (t : Tr H x (.tuple [a, b, c])) : ∃ (p : Addr) (u v w : V), x = .ref p ∧ Rd H p (.tup [u, v, w]) ∧ Tr H u a ∧ Tr H v b ∧ Tr H w c := by
  cases t with
  | @tup p xs _ h al =>
    revert h
    match xs, al with
    | [_, _, _], .cons t1 (.cons t2 (.cons t3 .nil)) => exact fun h => ⟨p, _, _, _, rfl, h, t1, t2, t3⟩
theorem tup4 {H : Hp} {x : V} {a b c d : PyData} (t : Tr H x (.tuple [a, b, c, d])) : ∃ (p : Addr) (u v w y : V), x = .ref p ∧ Rd H p (.tup [u, v, w, y]) ∧ Tr H u a ∧ Tr H v b ∧ Tr H w c ∧ Tr H y d := by
  cases t with
  | @tup p xs _ h al =>
    revert h
    match xs, al with
    | [_, _, _, _], .cons t1 (.cons t2 (.cons t3 (.cons t4 .nil))) => exact fun h => ⟨p, _, _, _, _, rfl, h, t1, t2, t3, t4⟩
theorem Tr.strV {H : Hp} {x : V} {z : Str} (t : Tr H x (.str z)) : x = .str z := by cases t; rfl
theorem Tr.intV {H : Hp} {x : V} {z : Int} (t : Tr H x (.int z)) : x = .int z := by cases t; rfl
section
variable {P : Program} {w : World} {K : PySem.W.Frag} {mg : Str → Option Value} {base : Heap}
theorem scHolds : FnScope ["saying", "now", "name", "sort", "i"] ["saying", "now"] (defScope sHolds) := ⟨rfl, rfl, rfl, by decide +kernel, rfl, by decide +kernel, by decide +kernel⟩
theorem ok_holds {f : Addr} {fd : FuncData} (F : Fun K "holds" "holds" sHolds f fd) : FnOk P w K mg base CX0 1 f fd ["saying", "now"] spHolds := by
  refine F.ok scHolds (fun vs H Q E h => ?_) (fun cdv A outer s H vs Q E hr h => ?_)
  · obtain ⟨x, d, es, sd, rfl, _⟩ := h
    rfl
  obtain ⟨x, d, es, sd, rfl, t, hs, hd, k⟩ := h
  have hu := hu_of hr
  refine ⟨_, pss_cons (ps_asg (pv 0) (pg_tup (by rfl) (pgs_cons (pg_name (i := 2) scHolds.nd rfl (.inl rfl)) <| pgs_cons (pg_name (i := 3) scHolds.nd rfl (.inl rfl)) <| pgs_cons (pg_name (i := 4) scHolds.nd rfl (.inl rfl)) pgs_nil))) <|
    pss_cons (ps_if (pt_cmpR op_eq (pv 3) pe_str (nomark _)) (pss_one (ps_ret (pe_cmpR op_ge (pe_dget hu (pv 1) (pv 2) (fun _ _ => rfl)) (pv 4) (nomark _)))) pss_nil) <|
    pss_one (ps_ret (pe_cmpR op_le (pe_dget hu (pv 1) (pv 2) (fun _ _ => rfl)) (pv 4) (nomark _))), ?_⟩
  obtain ⟨z, so, i, rfl, hz, hso⟩ := say_is hs
  obtain ⟨p, u, v, y, rfl, hp, t1, t2, t3⟩ := tup3 t
  cases t1.strV
  cases t2.strV
  cases t3.intV
  have dg := look_dg hd hz
  have e : holdsS (lookE es) (.tuple [.str z, .str so, .int i]) = if decide (so = "least") = true then decide (i ≤ lookE es z) else decide (lookE es z ≤ i) := rfl
  rw [e] at k
  refine ⟨_, rfl, p, _, rfl, (.inl hp), rfl, _, _, rfl, _, _, rfl, _, _, rfl, rfl, _, rfl, rfl, _, rfl, ?_⟩
  refine ite2 (fun c => ?_) (fun c => ?_)
  · refine ⟨_, rfl, _, rfl, d, _, rfl, dg, _, rfl, _, _, rfl, rfl, ?_⟩
    have c' : decide (so = ("least" : Str)) = true := by simpa using c
    rw [if_pos c'] at k
    exact k
  · refine ⟨_, rfl, _, rfl, d, _, rfl, dg, _, rfl, _, _, rfl, rfl, ?_⟩
    have c' : ¬ decide (so = ("least" : Str)) = true := by simpa using c
    rw [if_neg c'] at k
    exact k
theorem scRuleH : FnScope ["rule", "now", "word", "a", "b", "c"] ["rule", "now"] (defScope sRuleH) := ⟨rfl, rfl, rfl, by decide +kernel, rfl, by decide +kernel, by decide +kernel⟩
theorem ok_ruleH {f g : Addr} {fd gd : FuncData} (F : Fun K "rule_holds" "rule_holds" sRuleH f fd) (G : FnOk P w K mg base CX0 1 g gd ["saying", "now"] spHolds) (bG : Binds K gd ["saying", "now"] []) (kG : PySem.W.keepIn K (.ref g) = true) (mG : mg "holds" = some (.ref g)) : FnOk P w K mg base CX0 2 f fd ["rule", "now"] spRuleH := by
  refine F.ok scRuleH (fun vs H Q E h => ?_) (fun cdv A outer s H vs Q E hr h => ?_)
  · obtain ⟨x, d, es, sd, rfl, _⟩ := h
    rfl
  obtain ⟨x, d, es, rd, rfl, t, hs, hd, k⟩ := h
  have hu := hu_of hr
  refine ⟨_, pss_cons (ps_if (pt_cmpR op_eq (pe_ix ix_tup (pv 0) pe_int (fun _ _ => rfl)) pe_str (nomark _))
      (pss_one (ps_ret (pe_or (pe_call G hr rfl mG kG bG .nil pass0 (pa_cons (pe_ix ix_tup (pv 0) pe_int (fun _ _ => rfl)) (pa_cons (pv 1) pa_nil))) (pe_one (pe_call G hr rfl mG kG bG .nil pass0 (pa_cons (pe_ix ix_tup (pv 0) pe_int (fun _ _ => rfl)) (pa_cons (pv 1) pa_nil))))))) pss_nil) <|
    pss_cons (ps_asg (pv 0) (pg_tup (by rfl) (pgs_cons (pg_name (i := 2) scRuleH.nd rfl (.inl rfl)) <| pgs_cons (pg_name (i := 3) scRuleH.nd rfl (.inl rfl)) <| pgs_cons (pg_name (i := 4) scRuleH.nd rfl (.inl rfl)) <| pgs_cons (pg_name (i := 5) scRuleH.nd rfl (.inl rfl)) pgs_nil))) <|
    pss_cons (ps_if (pt_cmpR op_eq (pv 2) pe_str (nomark _)) (pss_one (ps_ret (pe_cmpR op_le (pe_dget hu (pv 1) (pv 3) (fun _ _ => rfl)) (pe_op op_add (pe_dget hu (pv 1) (pv 4) (fun _ _ => rfl)) (pv 5)) (nomark _)))) pss_nil) <|
    pss_cons (ps_if (pt_cmpR op_eq (pv 2) pe_str (nomark _)) (pss_one (ps_ret (pe_cmpR op_le (pe_op op_add (pe_dget hu (pv 1) (pv 3) (fun _ _ => rfl)) (pe_dget hu (pv 1) (pv 4) (fun _ _ => rfl))) (pv 5) (nomark _)))) pss_nil) <|
    pss_one (ps_ret (pe_cmpR op_ge (pe_op op_add (pe_dget hu (pv 1) (pv 3) (fun _ _ => rfl)) (pe_dget hu (pv 1) (pv 4) (fun _ _ => rfl))) (pv 5) (nomark _))), ?_⟩
  rcases rule_is hs with ⟨p, q, rfl, h1, h2⟩ | ⟨w', a, b, c, rfl, hw, ha, hb⟩
  · obtain ⟨pa, u, v, y, rfl, hp, t1, t2, t3⟩ := tup3 t
    cases t1.strV
    have e : ruleH (lookE es) (.tuple [.str "one", p, q]) = (holdsS (lookE es) p || holdsS (lookE es) q) := rfl
    rw [e] at k
    refine ⟨_, rfl, pa, _, _, _, rfl, rfl, (.inl hp), (rfl : atI [V.str "one", v, y] 0 = some (V.str "one")), rfl, _, rfl, iteT ?_⟩
    refine ⟨_, rfl, pa, _, _, _, rfl, rfl, (.inl hp), (rfl : atI [V.str "one", v, y] 1 = some v), _, rfl, v, d, es, p, rfl, t2, h1, hd, _, rfl, ?_⟩
    cases c1 : holdsS (lookE es) p with
    | true =>
      rw [c1] at k
      exact iteT k
    | false =>
      rw [c1] at k
      exact iteF ⟨_, rfl, pa, _, _, _, rfl, rfl, (.inl hp), (rfl : atI [V.str "one", v, y] 2 = some y), _, rfl, y, d, es, q, rfl, t3, h2, hd, k⟩
  · obtain ⟨pa, u, v, y, z, rfl, hp, t1, t2, t3, t4⟩ := tup4 t
    cases t1.strV
    cases t2.strV
    cases t3.strV
    cases t4.intV
    have e : ruleH (lookE es) (.tuple [.str w', .str a, .str b, .int c]) = if decide (w' = "off") = true then decide (lookE es a ≤ lookE es b + c) else if decide (w' = "most") = true then decide (lookE es a + lookE es b ≤ c) else decide (c ≤ lookE es a + lookE es b) := rfl
    rw [e] at k
    have da := look_dg hd ha
    have db := look_dg hd hb
    refine ⟨_, rfl, pa, _, _, _, rfl, rfl, (.inl hp), (rfl : atI [V.str w', V.str a, V.str b, V.int c] 0 = some (V.str w')), rfl, _, rfl, ?_⟩
    refine ite2 (fun c1 => ?_) (fun _ => ?_)
    · have q := pairs_one w' hw
      have q2 : w' = ("one" : Str) := by simpa using c1
      rw [decide_eq_true q2] at q
      cases q
    refine ⟨_, rfl, pa, _, rfl, (.inl hp), rfl, _, _, rfl, _, _, rfl, _, _, rfl, _, _, rfl, rfl, _, rfl, rfl, _, rfl, ?_⟩
    refine ite2 (fun c1 => ?_) (fun c1 => ?_)
    · have c' : decide (w' = ("off" : Str)) = true := by simpa using c1
      rw [if_pos c'] at k
      exact ⟨_, rfl, _, rfl, d, _, rfl, da, _, rfl, _, rfl, d, _, rfl, db, _, rfl, _, _, rfl, rfl, _, _, rfl, rfl, k⟩
    have c' : ¬ decide (w' = ("off" : Str)) = true := by simpa using c1
    rw [if_neg c'] at k
    refine ⟨_, rfl, rfl, _, rfl, ?_⟩
    refine ite2 (fun c2 => ?_) (fun c2 => ?_)
    · have c' : decide (w' = ("most" : Str)) = true := by simpa using c2
      rw [if_pos c'] at k
      exact ⟨_, rfl, _, rfl, d, _, rfl, da, _, rfl, _, rfl, d, _, rfl, db, _, _, rfl, rfl, _, rfl, _, _, rfl, rfl, k⟩
    · have c' : ¬ decide (w' = ("most" : Str)) = true := by simpa using c2
      rw [if_neg c'] at k
      exact ⟨_, rfl, _, rfl, d, _, rfl, da, _, rfl, _, rfl, d, _, rfl, db, _, _, rfl, rfl, _, rfl, _, _, rfl, rfl, k⟩
theorem scLSaid : FnScope ["_law_saying_here", "_law_at"] ["_law_saying_here", "_law_at"] (defScope sLSaid) := ⟨rfl, rfl, rfl, by decide +kernel, rfl, by decide +kernel, by decide +kernel⟩
theorem ok_lsaid {f : Addr} {fd : FuncData} (F : Fun K "_law_said" "_law_said" sLSaid f fd) : FnOk P w K mg base CX0 1 f fd ["_law_saying_here", "_law_at"] spHolds := by
  refine F.ok scLSaid (fun vs H Q E h => ?_) (fun cdv A outer s H vs Q E hr h => ?_)
  · obtain ⟨x, d, es, sd, rfl, _⟩ := h
    rfl
  obtain ⟨x, d, es, sd, rfl, t, hs, hd, k⟩ := h
  have hu := hu_of hr
  refine ⟨_, pss_one (ps_ret (pe_ifExp (pt_cmpR op_eq (pe_ix ix_tup (pv 0) pe_int (fun _ _ => rfl)) pe_str (nomark _))
    (pe_cmpR op_ge (pe_dget hu (pv 1) (pe_ix ix_tup (pv 0) pe_int (fun _ _ => rfl)) (fun _ _ => rfl)) (pe_ix ix_tup (pv 0) pe_int (fun _ _ => rfl)) (nomark _))
    (pe_cmpR op_le (pe_dget hu (pv 1) (pe_ix ix_tup (pv 0) pe_int (fun _ _ => rfl)) (fun _ _ => rfl)) (pe_ix ix_tup (pv 0) pe_int (fun _ _ => rfl)) (nomark _)))), ?_⟩
  obtain ⟨z, so, i, rfl, hz, hso⟩ := say_is hs
  obtain ⟨p, u, v, y, rfl, hp, t1, t2, t3⟩ := tup3 t
  cases t1.strV
  cases t2.strV
  cases t3.intV
  have dg := look_dg hd hz
  have e : holdsS (lookE es) (.tuple [.str z, .str so, .int i]) = if decide (so = "least") = true then decide (i ≤ lookE es z) else decide (lookE es z ≤ i) := rfl
  rw [e] at k
  have i0 : atI [V.str z, V.str so, V.int i] 0 = some (V.str z) := rfl
  have i1 : atI [V.str z, V.str so, V.int i] 1 = some (V.str so) := rfl
  have i2 : atI [V.str z, V.str so, V.int i] 2 = some (V.int i) := rfl
  refine ⟨_, rfl, p, _, _, _, rfl, rfl, (.inl hp), i1, rfl, _, rfl, ?_⟩
  refine ite2 (fun c => ?_) (fun c => ?_)
  · have c' : decide (so = ("least" : Str)) = true := by simpa using c
    rw [if_pos c'] at k
    exact ⟨_, rfl, _, rfl, p, _, _, _, rfl, rfl, (.inl hp), i0, d, _, rfl, dg, _, rfl, p, _, _, _, rfl, rfl, (.inl hp), i2, _, _, rfl, rfl, k⟩
  · have c' : ¬ decide (so = ("least" : Str)) = true := by simpa using c
    rw [if_neg c'] at k
    exact ⟨_, rfl, _, rfl, p, _, _, _, rfl, rfl, (.inl hp), i0, d, _, rfl, dg, _, rfl, p, _, _, _, rfl, rfl, (.inl hp), i2, _, _, rfl, rfl, k⟩
theorem scLHolds : FnScope ["_law_rule", "_law_at", "_law_both"] ["_law_rule", "_law_at"] (defScope sLHolds) := ⟨rfl, rfl, rfl, by decide +kernel, rfl, by decide +kernel, by decide +kernel⟩
theorem ok_lholds {f g : Addr} {fd gd : FuncData} (F : Fun K "_law_holds" "_law_holds" sLHolds f fd) (G : FnOk P w K mg base CX0 1 g gd ["_law_saying_here", "_law_at"] spHolds) (bG : Binds K gd ["_law_saying_here", "_law_at"] []) (kG : PySem.W.keepIn K (.ref g) = true) (mG : mg "_law_said" = some (.ref g)) : FnOk P w K mg base CX0 2 f fd ["_law_rule", "_law_at"] spRuleH := by
  refine F.ok scLHolds (fun vs H Q E h => ?_) (fun cdv A outer s H vs Q E hr h => ?_)
  · obtain ⟨x, d, es, sd, rfl, _⟩ := h
    rfl
  obtain ⟨x, d, es, rd, rfl, t, hs, hd, k⟩ := h
  have hu := hu_of hr
  refine ⟨_, pss_cons (ps_if (pt_cmpR op_eq (pe_ix ix_tup (pv 0) pe_int (fun _ _ => rfl)) pe_str (nomark _))
      (pss_one (ps_ret (pe_or (pe_call G hr rfl mG kG bG .nil pass0 (pa_cons (pe_ix ix_tup (pv 0) pe_int (fun _ _ => rfl)) (pa_cons (pv 1) pa_nil))) (pe_one (pe_call G hr rfl mG kG bG .nil pass0 (pa_cons (pe_ix ix_tup (pv 0) pe_int (fun _ _ => rfl)) (pa_cons (pv 1) pa_nil))))))) pss_nil) <|
    pss_cons (ps_if (pt_cmpR op_eq (pe_ix ix_tup (pv 0) pe_int (fun _ _ => rfl)) pe_str (nomark _))
      (pss_one (ps_ret (pe_cmpR op_le (pe_op op_sub (pe_dget hu (pv 1) (pe_ix ix_tup (pv 0) pe_int (fun _ _ => rfl)) (fun _ _ => rfl)) (pe_dget hu (pv 1) (pe_ix ix_tup (pv 0) pe_int (fun _ _ => rfl)) (fun _ _ => rfl))) (pe_ix ix_tup (pv 0) pe_int (fun _ _ => rfl)) (nomark _)))) pss_nil) <|
    pss_cons (ps_set (i := 2) scLHolds.nd rfl (.inl rfl) (pe_op op_add (pe_dget hu (pv 1) (pe_ix ix_tup (pv 0) pe_int (fun _ _ => rfl)) (fun _ _ => rfl)) (pe_dget hu (pv 1) (pe_ix ix_tup (pv 0) pe_int (fun _ _ => rfl)) (fun _ _ => rfl)))) <|
    pss_one (ps_ret (pe_ifExp (pt_cmpR op_eq (pe_ix ix_tup (pv 0) pe_int (fun _ _ => rfl)) pe_str (nomark _)) (pe_cmpR op_le (pv 2) (pe_ix ix_tup (pv 0) pe_int (fun _ _ => rfl)) (nomark _)) (pe_cmpR op_ge (pv 2) (pe_ix ix_tup (pv 0) pe_int (fun _ _ => rfl)) (nomark _)))), ?_⟩
  rcases rule_is hs with ⟨p, q, rfl, h1, h2⟩ | ⟨w', a, b, c, rfl, hw, ha, hb⟩
  · obtain ⟨pa, u, v, y, rfl, hp, t1, t2, t3⟩ := tup3 t
    cases t1.strV
    have e : ruleH (lookE es) (.tuple [.str "one", p, q]) = (holdsS (lookE es) p || holdsS (lookE es) q) := rfl
    rw [e] at k
    refine ⟨_, rfl, pa, _, _, _, rfl, rfl, (.inl hp), (rfl : atI [V.str "one", v, y] 0 = some (V.str "one")), rfl, _, rfl, iteT ?_⟩
    refine ⟨_, rfl, pa, _, _, _, rfl, rfl, (.inl hp), (rfl : atI [V.str "one", v, y] 1 = some v), _, rfl, v, d, es, p, rfl, t2, h1, hd, _, rfl, ?_⟩
    cases c1 : holdsS (lookE es) p with
    | true =>
      rw [c1] at k
      exact iteT k
    | false =>
      rw [c1] at k
      exact iteF ⟨_, rfl, pa, _, _, _, rfl, rfl, (.inl hp), (rfl : atI [V.str "one", v, y] 2 = some y), _, rfl, y, d, es, q, rfl, t3, h2, hd, k⟩
  · obtain ⟨pa, u, v, y, z, rfl, hp, t1, t2, t3, t4⟩ := tup4 t
    cases t1.strV
    cases t2.strV
    cases t3.strV
    cases t4.intV
    have e : ruleH (lookE es) (.tuple [.str w', .str a, .str b, .int c]) = if decide (w' = "off") = true then decide (lookE es a ≤ lookE es b + c) else if decide (w' = "most") = true then decide (lookE es a + lookE es b ≤ c) else decide (c ≤ lookE es a + lookE es b) := rfl
    rw [e] at k
    have da := look_dg hd ha
    have db := look_dg hd hb
    have i0 : atI [V.str w', V.str a, V.str b, V.int c] 0 = some (V.str w') := rfl
    have i1 : atI [V.str w', V.str a, V.str b, V.int c] 1 = some (V.str a) := rfl
    have i2 : atI [V.str w', V.str a, V.str b, V.int c] 2 = some (V.str b) := rfl
    have i3 : atI [V.str w', V.str a, V.str b, V.int c] 3 = some (V.int c) := rfl
    refine ⟨_, rfl, pa, _, _, _, rfl, rfl, (.inl hp), i0, rfl, _, rfl, ?_⟩
    refine ite2 (fun c1 => ?_) (fun _ => ?_)
    · have q := pairs_one w' hw
      have q2 : w' = ("one" : Str) := by simpa using c1
      rw [decide_eq_true q2] at q
      cases q
    refine ⟨_, rfl, pa, _, _, _, rfl, rfl, (.inl hp), i0, rfl, _, rfl, ?_⟩
    refine ite2 (fun c1 => ?_) (fun c1 => ?_)
    · have c' : decide (w' = ("off" : Str)) = true := by simpa using c1
      rw [if_pos c', show decide (lookE es a ≤ lookE es b + c) = decide (lookE es a - lookE es b ≤ c) from decide_eq_decide.mpr (by omega)] at k
      exact ⟨_, rfl, _, rfl, pa, _, _, _, rfl, rfl, (.inl hp), i1, d, _, rfl, da, _, rfl, _, rfl, pa, _, _, _, rfl, rfl, (.inl hp), i2, d, _, rfl, db, _, _, rfl, rfl, _, rfl, pa, _, _, _, rfl, rfl, (.inl hp), i3, _, _, rfl, rfl, k⟩
    have c' : ¬ decide (w' = ("off" : Str)) = true := by simpa using c1
    rw [if_neg c'] at k
    refine ⟨_, rfl, _, rfl, pa, _, _, _, rfl, rfl, (.inl hp), i1, d, _, rfl, da, _, rfl, _, rfl, pa, _, _, _, rfl, rfl, (.inl hp), i2, d, _, rfl, db, _, _, rfl, rfl, _, rfl, pa, _, _, _, rfl, rfl, (.inl hp), i0, rfl, _, rfl, ?_⟩
    refine ite2 (fun c2 => ?_) (fun c2 => ?_)
    · have c' : decide (w' = ("most" : Str)) = true := by simpa using c2
      rw [if_pos c'] at k
      exact ⟨_, rfl, _, rfl, pa, _, _, _, rfl, rfl, (.inl hp), i3, _, _, rfl, rfl, k⟩
    · have c' : ¬ decide (w' = ("most" : Str)) = true := by simpa using c2
      rw [if_neg c'] at k
      exact ⟨_, rfl, _, rfl, pa, _, _, _, rfl, rfl, (.inl hp), i3, _, _, rfl, rfl, k⟩
end
end Pk
/-! names_in, Layout. -/
namespace Pk
open PySem L2
abbrev sNamesIn : Stmt := topH 29
abbrev sInit : Stmt := inClass (topH 30) 0
abbrev sByN : Stmt := inClass (topH 30) 1
theorem dc_it {J : It} {n : Nat} {G : Hp → Prop} {Y : Nat → Hp → V → Hp → Prop} (W : Walk J n G Y) {g : TG} {tt : TT} {tk tv : TE} {vs : List Nat} {σ : L2.St} {H1 : Hp} {D : Addr} {Qd : Hp → Prop} (Pv : Nat → Hp → Prop) (h0 : Pv 0 (upd H1 D (.dK []))) (hG : ∀ i H, i ≤ n → Pv i H → G H)
    (hs : ∀ i x H H', i < n → Pv i H → Y i H x H' → g x (wipe σ vs) H' fun σ2 H2 => wipe σ2 vs = wipe σ vs ∧ tt σ2 H2 fun b H3 =>
      if b = true then tk σ2 H3 fun y H4 => tv σ2 H4 fun z H5 => ∃ kvs k, y = kV k ∧ H5 D = some (.dK kvs) ∧ kvs.length < sizeLine ∧ Pv (i + 1) (upd H5 D (.dK (putK kvs k z))) else Pv (i + 1) H3) (hd : ∀ H, Pv n H → Qd H) :
    ∃ W' : Nat → Nat → Hp → Prop, (∃ m, W' 0 m (upd H1 D (.dK []))) ∧ ∀ i m H, W' i m H →
      (J.stop i H ∧ Qd H) ∨ (J.go i H ∧ ∃ Nx : Hp → Prop, (∀ H', Nx H' → ∃ m', m' < m ∧ W' (i + 1) m' H') ∧ ∀ x H', J.yld i H x H' → g x (wipe σ vs) H' fun σ2 H2 => wipe σ2 vs = wipe σ vs ∧ tt σ2 H2 fun b H3 =>
        if b = true then tk σ2 H3 fun y H4 => tv σ2 H4 fun z H5 => ∃ kvs k, y = kV k ∧ H5 D = some (.dK kvs) ∧ kvs.length < sizeLine ∧ Nx (upd H5 D (.dK (putK kvs k z))) else Nx H3) := by
  refine ⟨fun i m H => m = n - i ∧ i ≤ n ∧ Pv i H, ⟨n, by simp, Nat.zero_le _, h0⟩, ?_⟩
  rintro i m H ⟨rfl, hi, p⟩
  have hg := hG i H hi p
  by_cases hlt : i < n
  · exact .inr ⟨W.goes i H hlt hg, Pv (i + 1), fun H' p' => ⟨n - (i + 1), by omega, rfl, hlt, p'⟩, fun x H' y => hs i x H H' hlt p (W.yields i H x H' hlt hg y)⟩
  · have e : i = n := by omega
    subst e
    exact .inl ⟨W.stops H hg, hd H p⟩
/-- a rule that speaks of this name -/
def ownOf (z : Str) : PyData → Bool
  | .tuple [_, .tuple [.str a, _, _], .tuple [.str b, _, _]] => decide (a = z) || decide (b = z)
  | .tuple [_, .str a, .str b, _] => decide (a = z) || decide (b = z)
  | _ => false
def spNamesIn : Sp := fun vs H Q _ => ∃ (x : V) (ns : List Str) (rd : PyData), vs = [x] ∧ Tr H x rd ∧ ruleD ns rd = true ∧ ∀ (l : Addr) (zs : List Str) (H' : Hp), Same H H' → H l = none → H' l = some (.lst (zs.map V.str)) → zs.length ≤ 2 → (∀ z ∈ zs, z ∈ ns) → (∀ z, ownOf z rd = true → z ∈ zs) → Q (.ref l) H'
section
variable {P : Program} {w : World} {K : PySem.W.Frag} {mg : Str → Option Value} {base : Heap}
theorem scNamesIn : FnScope ["rule", "first", "second"] ["rule"] (defScope sNamesIn) := ⟨rfl, rfl, rfl, by decide +kernel, rfl, by decide +kernel, by decide +kernel⟩
theorem ok_namesIn {f : Addr} {fd : FuncData} (F : Fun K "names_in" "names_in" sNamesIn f fd) : FnOk P w K mg base CX0 1 f fd ["rule"] spNamesIn := by
  refine F.ok scNamesIn (fun vs H Q E h => ?_) (fun cdv A outer s H vs Q E hr h => ?_)
  · obtain ⟨x, ns, rd, rfl, _⟩ := h
    rfl
  obtain ⟨x, ns, rd, rfl, t, hs, k⟩ := h
  refine ⟨_, pss_cons (ps_if (pt_cmpR op_ne (pe_ix ix_tup (pv 0) pe_int (fun _ _ => rfl)) pe_str (nomark _)) (pss_one (ps_ret (pe_lst (pa_cons (pe_ix ix_tup (pv 0) pe_int (fun _ _ => rfl)) (pa_cons (pe_ix ix_tup (pv 0) pe_int (fun _ _ => rfl)) pa_nil))))) pss_nil) <|
    pss_cons (ps_par (i := 1) (j := 2) (by rfl) scNamesIn.nd rfl rfl (by decide) rfl rfl (pa_cons (pe_ix ix_tup (pe_ix ix_tup (pv 0) pe_int (fun _ _ => rfl)) pe_int (fun _ _ => rfl)) (pa_cons (pe_ix ix_tup (pe_ix ix_tup (pv 0) pe_int (fun _ _ => rfl)) pe_int (fun _ _ => rfl)) pa_nil)) (by rfl)) <|
    pss_one (ps_ret (pe_ifExp (pt_cmpR op_eq (pv 1) (pv 2) (nomark _)) (pe_lst (pa_cons (pv 1) pa_nil)) (pe_lst (pa_cons (pv 1) (pa_cons (pv 2) pa_nil))))), ?_⟩
  rcases rule_is hs with ⟨p, q, rfl, h1, h2⟩ | ⟨w', a, b, c, rfl, hw, ha, hb⟩
  · obtain ⟨z1, so1, j1, rfl, m1, _⟩ := say_is h1
    obtain ⟨z2, so2, j2, rfl, m2, _⟩ := say_is h2
    obtain ⟨pa, u, v, y, rfl, hp, t1, t2, t3⟩ := tup3 t
    cases t1.strV
    obtain ⟨q1, a1, a2, a3, rfl, g1, s1, s2, s3⟩ := tup3 t2
    obtain ⟨q2, b1, b2, b3, rfl, g2, r1, r2, r3⟩ := tup3 t3
    cases s1.strV
    cases r1.strV
    refine ⟨_, rfl, pa, _, _, _, rfl, rfl, (.inl hp), (rfl : atI [V.str "one", V.ref q1, V.ref q2] 0 = some (V.str "one")), rfl, _, rfl, iteF ?_⟩
    refine ⟨_, rfl, pa, _, _, _, rfl, rfl, (.inl hp), (rfl : atI [V.str "one", V.ref q1, V.ref q2] 1 = some (V.ref q1)), q1, _, _, _, rfl, rfl, (.inl g1), (rfl : atI [V.str z1, a2, a3] 0 = some (V.str z1)), ?_⟩
    refine ⟨_, rfl, pa, _, _, _, rfl, rfl, (.inl hp), (rfl : atI [V.str "one", V.ref q1, V.ref q2] 2 = some (V.ref q2)), q2, _, _, _, rfl, rfl, (.inl g2), (rfl : atI [V.str z2, b2, b3] 0 = some (V.str z2)), ?_⟩
    refine ⟨_, _, rfl, _, rfl, _, rfl, rfl, _, rfl, ?_⟩
    refine ite2 (fun ce => ?_) (fun _ => ?_)
    · exact ⟨_, rfl, by show 1 ≤ sizeLine; decide, fun l nl => k l [z1] _ (sameNew nl _) nl upd_same (by simp) (fun z hz => by rw [List.mem_singleton.mp hz]; exact m1) (fun z hz => by
      have hz' : (decide (z1 = z) || decide (z2 = z)) = true := hz
      rw [Bool.or_eq_true, decide_eq_true_eq, decide_eq_true_eq] at hz'
      have e12 : z1 = z2 := by simpa using ce
      rcases hz' with q | q
      · rw [q]
        exact List.mem_cons_self
      · rw [e12, q]
        exact List.mem_cons_self)⟩
    · refine ⟨_, rfl, _, rfl, by show 2 ≤ sizeLine; decide, fun l nl => k l [z1, z2] _ (sameNew nl _) nl upd_same (by simp) (fun z hz => ?_) (fun z hz => by
      have hz' : (decide (z1 = z) || decide (z2 = z)) = true := hz
      rw [Bool.or_eq_true, decide_eq_true_eq, decide_eq_true_eq] at hz'
      rcases hz' with q | q
      · rw [q]
        exact List.mem_cons_self
      · rw [q]
        exact List.mem_cons_of_mem _ List.mem_cons_self)⟩
      simp only [List.mem_cons, List.not_mem_nil, or_false] at hz
      rcases hz with rfl | rfl
      · exact m1
      · exact m2
  · obtain ⟨pa, u, v, y, z, rfl, hp, t1, t2, t3, t4⟩ := tup4 t
    cases t1.strV
    cases t2.strV
    cases t3.strV
    cases t4.intV
    refine ⟨_, rfl, pa, _, _, _, rfl, rfl, (.inl hp), (rfl : atI [V.str w', V.str a, V.str b, V.int c] 0 = some (V.str w')), rfl, _, rfl, ?_⟩
    refine ite2 (fun _ => ?_) (fun c1 => ?_)
    · refine ⟨_, rfl, pa, _, _, _, rfl, rfl, (.inl hp), (rfl : atI [V.str w', V.str a, V.str b, V.int c] 1 = some (V.str a)), _, rfl, pa, _, _, _, rfl, rfl, (.inl hp), (rfl : atI [V.str w', V.str a, V.str b, V.int c] 2 = some (V.str b)), by show 2 ≤ sizeLine; decide, fun l nl => k l [a, b] _ (sameNew nl _) nl upd_same (by simp) (fun z hz => ?_) (fun z hz => by
        have hz' : (decide (a = z) || decide (b = z)) = true := hz
        rw [Bool.or_eq_true, decide_eq_true_eq, decide_eq_true_eq] at hz'
        rcases hz' with q | q
        · rw [q]
          exact List.mem_cons_self
        · rw [q]
          exact List.mem_cons_of_mem _ List.mem_cons_self)⟩
      simp only [List.mem_cons, List.not_mem_nil, or_false] at hz
      rcases hz with rfl | rfl
      · exact ha
      · exact hb
    · exfalso
      have q := pairs_one w' hw
      have q2 : w' = ("one" : Str) := by simpa using c1
      rw [decide_eq_true q2] at q
      cases q
end
end Pk
/-! Layout's making. -/
namespace Pk
open PySem L2
structure LayTxt (K : PySem.W.Frag) (mg : Str → Option Value) (C : Addr) : Prop where
  cl : Cls K C
  nN : NoAttr K C "names"
  nD : NoAttr K C "dials"
  nR : NoAttr K C "rules"
  nS : NoAttr K C "speaking"
  mgC : mg "Layout" = some (.ref C)
/-- a Layout at x, its names at nl -/
structure LayAt (C : Addr) (H : Hp) (x nl : Addr) (ns : List Str) : Prop where
  ob : ∃ dx fs, H x = some (.ins C dx fs) ∧ fs.lookup ("names" : Str) = some (.ref nl) ∧ fs.lookup ("by_names" : Str) = none
  nm : H nl = some (.lst (ns.map V.str))
/-- the dials by their names -/
def Dls (H : Hp) (dl : Addr) (ds : List PyData) : Prop := ∃ kvs : List (Key × V), H dl = some (.dK kvs) ∧ ∀ d ∈ ds, ∃ v, valV kvs (Sum.inr (nameOf d)) = some v ∧ Tr H v d
/-- the rules that speak of a name -/
def Spf (H : Hp) (sp : Addr) (ns : List Str) (rs : List PyData) : Prop := ∃ kvs : List (Key × V), H sp = some (.dK kvs) ∧ ∀ z ∈ ns, ∃ (l : Addr) (ys : List V) (qs : List PyData), valV kvs (Sum.inr z) = some (.ref l) ∧ H l = some (.lst ys) ∧ ys.length ≤ 2 * rs.length ∧ TrAll H ys qs ∧ (∀ q ∈ qs, q ∈ rs) ∧ ∀ r ∈ rs, ownOf z r = true → r ∈ qs
/-- a whole Layout at x -/
structure LayF (C : Addr) (H : Hp) (x nl dl rb sp : Addr) (ds rs : List PyData) : Prop where
  ob : ∃ dx fs, H x = some (.ins C dx fs) ∧ fs.lookup ("names" : Str) = some (.ref nl) ∧ fs.lookup ("dials" : Str) = some (.ref dl) ∧ fs.lookup ("rules" : Str) = some (.ref rb) ∧ fs.lookup ("speaking" : Str) = some (.ref sp) ∧ fs.lookup ("by_names" : Str) = none ∧ fs.lookup ("numbers_of" : Str) = none
  nm : H nl = some (.lst ((ds.map nameOf).map V.str))
  dl : Dls H dl ds
  ru : Tr H (.ref rb) (.tuple rs)
  sp : Spf H sp (ds.map nameOf) rs
theorem LayF.at {C : Addr} {H : Hp} {x nl dl rb sp : Addr} {ds rs : List PyData} (L : LayF C H x nl dl rb sp ds rs) : LayAt C H x nl (ds.map nameOf) := by
  obtain ⟨dx, fs, h1, h2, _, _, _, h3, _⟩ := L.ob
  exact ⟨⟨dx, fs, h1, h2, h3⟩, L.nm⟩
def spInit (C : Addr) : Sp := fun vs H Q _ => ∃ (x h dx : Addr) (ds rs : List PyData), vs = [.ref x, .ref h] ∧ H x = some (.ins C dx []) ∧ Tr H (.ref h) (.tuple [.tuple ds, .tuple rs]) ∧ HouseG ds rs ∧
  ∀ (nl dl rb sp : Addr) (H' : Hp), LayF C H' x nl dl rb sp ds rs → (∀ b o, b ≠ x → H b = some o → H' b = some o) → Q .non H'
abbrev nInit : List Str := ["self", "house", "dials", "rules", "name", "rule", "dial"]
/-- each name has a list of its own -/
def Spk (H0 : Hp) (nl : Addr) (ns : List Str) (rs : List PyData) (dn : Str → PyData → Prop) (m : Nat) (H' : Hp) (sp : Addr) : Prop := ∃ kvs : List (Key × V), H' sp = some (.dK kvs) ∧ ∀ z ∈ ns, ∃ (l : Addr) (ys : List V) (qs : List PyData), valV kvs (Sum.inr z) = some (.ref l) ∧ H0 l = none ∧ l ≠ nl ∧ H' l = some (.lst ys) ∧ ys.length ≤ m ∧ TrAll H0 ys qs ∧ (∀ q ∈ qs, q ∈ rs) ∧ ∀ r, dn z r → r ∈ qs
theorem dial_tup0 {H : Hp} {x : V} {d : PyData} (t : Tr H x d) (h : DialG d) : ∃ (b : Addr) (xs : List V), x = .ref b ∧ Rd H b (.tup xs) ∧ atI xs 0 = some (.str (nameOf d)) := by
  obtain ⟨nm, way, lo, hi, up, dn, rfl, _⟩ := h
  cases t with
  | @tup b xs _ hb al =>
    revert hb
    match xs, al with
    | [_, _, _, _, _, _], .cons (.str _) _ => exact fun hb => ⟨b, _, rfl, hb, rfl⟩
/-- no data stands at p -/
def NoData (H : Hp) (p : Addr) : Prop := ∀ o, H p = some o → (∀ xs, o ≠ .lst xs) ∧ (∀ xs, o ≠ .tup xs) ∧ (∀ kvs, o ≠ .dK kvs) ∧ ∀ ob u, o ≠ .frz ob u
theorem NoData.ins {H : Hp} {p C dx : Addr} {fs : List (Str × V)} (h : H p = some (.ins C dx fs)) : NoData H p := fun o e => by
  rw [h] at e
  cases e
  refine ⟨fun _ z => ?_, fun _ z => ?_, fun _ z => ?_, fun _ _ z => ?_⟩ <;> cases z
theorem _root_.L2.Rd.but {p : Addr} {H H' : Hp} (n : NoData H p) (k : ∀ c o, c ≠ p → H c = some o → H' c = some o) {a : Addr} {xs : List V} (h : Rd H a (.tup xs)) : Rd H' a (.tup xs) := by
  rcases h with h | ⟨o, h⟩
  · exact .inl (k _ _ (fun z => by rw [z] at h; exact (n _ h).2.1 _ rfl) h)
  · exact .inr ⟨o, k _ _ (fun z => by rw [z] at h; exact (n _ h).2.2.2 _ _ rfl) h⟩
mutual
theorem Tr.but {p : Addr} {H H' : Hp} (n : NoData H p) (k : ∀ c o, c ≠ p → H c = some o → H' c = some o) : ∀ {v : V} {d : PyData}, Tr H v d → Tr H' v d
  | _, _, .non => .non
  | _, _, .bl b => .bl b
  | _, _, .int i => .int i
  | _, _, .str x => .str x
  | _, _, .lst h t => .lst (k _ _ (fun z => by rw [z] at h; exact (n _ h).1 _ rfl) h) (TrAll.but n k t)
  | _, _, .tup h t => .tup (h.but n k) (TrAll.but n k t)
  | _, _, .dct h nd e t => .dct (k _ _ (fun z => by rw [z] at h; exact (n _ h).2.2.1 _ rfl) h) nd e (TrAll.but n k t)
theorem TrAll.but {p : Addr} {H H' : Hp} (n : NoData H p) (k : ∀ c o, c ≠ p → H c = some o → H' c = some o) : ∀ {vs : List V} {ds : List PyData}, TrAll H vs ds → TrAll H' vs ds
  | _, _, .nil => .nil
  | _, _, .cons a b => .cons (Tr.but n k a) (TrAll.but n k b)
end
theorem nd_ix {α : Type} {l : List α} {i j : Nat} {a : α} (h : l.Nodup) (hi : l[i]? = some a) (hj : l[j]? = some a) : i = j := by
  obtain ⟨h1, e1⟩ := List.getElem?_eq_some_iff.mp hi
  obtain ⟨h2, e2⟩ := List.getElem?_eq_some_iff.mp hj
  rcases Nat.lt_trichotomy i j with q | q | q
  · exact absurd (e1.trans e2.symm) (List.pairwise_iff_getElem.mp h i j h1 h2 q)
  · exact q
  · exact absurd (e2.trans e1.symm) (List.pairwise_iff_getElem.mp h j i h2 h1 q)
section
variable {P : Program} {w : World} {K : PySem.W.Frag} {mg : Str → Option Value} {base : Heap}
theorem scInit : FnScope nInit ["self", "house"] (defScope sInit) := ⟨rfl, rfl, rfl, by decide +kernel, rfl, by decide +kernel, by decide +kernel⟩
set_option maxHeartbeats 2000000 in
theorem ok_init {f g C : Addr} {fd gd : FuncData} (F : Fun K "__init__" "Layout.__init__" sInit f fd) (T : LayTxt K mg C) (G : FnOk P w K mg base CX0 1 g gd ["rule"] spNamesIn) (bG : Binds K gd ["rule"] []) (kG : PySem.W.keepIn K (.ref g) = true) (mG : mg "names_in" = some (.ref g)) :
    FnOk P w K mg base CX0 2 f fd ["self", "house"] (spInit C) := by
  refine F.ok scInit (fun vs H Q E h => ?_) (fun cdv A outer s H vs Q E hr h => ?_)
  · obtain ⟨x, h, dx, ds, rs, rfl, _⟩ := h
    rfl
  obtain ⟨x, h, dx, ds, rs, rfl, hx, th, hg, k⟩ := h
  have hu := hu_of hr
  refine ⟨_, pss_cons (ps_asg (pv 1) (pg_tup (by rfl) (pgs_cons (pg_name (i := 2) scInit.nd rfl (.inl rfl)) <| pgs_cons (pg_name (i := 3) scInit.nd rfl (.inl rfl)) pgs_nil))) <|
    pss_cons (ps_fld (pv 0) (pe_lc (own := [("dial", 6)]) (g := gName 6) (by rfl) scInit.nd (pi_tup (pv 2)) (blkOk_by (N := nInit) (sc := defScope sInit) (by decide +kernel)) (fun _ _ _ _ _ => pg_name (i := 6) scInit.nd rfl (Or.inl rfl)) (fun _ _ _ _ _ => pts_nil) (fun _ _ _ _ _ => pe_ix (r := rIxT K) ix_tup (pv 6) pe_int (fun _ _ => rfl))) rfl) <|
    pss_cons (ps_fld (pv 0) (pe_dc (own := [("dial", 6)]) (g := gName 6) (by rfl) scInit.nd (pi_tup (pv 2)) (blkOk_by (N := nInit) (sc := defScope sInit) (by decide +kernel)) (fun _ _ _ _ _ => pg_name (i := 6) scInit.nd rfl (Or.inl rfl)) (fun _ _ _ _ _ => pts_nil) (fun _ _ _ _ _ => pe_ix (r := rIxT K) ix_tup (pv 6) pe_int (fun _ _ => rfl)) (fun _ _ _ _ _ => pv 6)) rfl) <|
    pss_cons (ps_fld (pv 0) (pv 3) rfl) <|
    pss_cons (ps_fld (pv 0) (pe_dc (own := [("name", 4)]) (g := gName 4) (by rfl) scInit.nd (pi_list (pe_fld (pv 0) rfl)) (blkOk_by (N := nInit) (sc := defScope sInit) (by decide +kernel)) (fun _ _ _ _ _ => pg_name (i := 4) scInit.nd rfl (Or.inl rfl)) (fun _ _ _ _ _ => pts_nil) (fun _ _ _ _ _ => pv 4) (fun _ _ _ _ _ => pe_lst pa_nil)) rfl) <|
    pss_one (ps_for PassesOwn.never rfl (pi_tup (pv 3)) (pg_name (i := 5) scInit.nd rfl (Or.inl rfl))
      (pss_one (ps_for PassesOwn.never rfl (pi_list (pe_call G hr rfl mG kG bG .nil pass0 (pa_cons (pv 5) pa_nil))) (pg_name (i := 4) scInit.nd rfl (Or.inl rfl))
        (pss_one (ps_expr (pe_bm PySem.F.plainAttrs_list PySem.F.slot_list_append PySem.F.type_list_append mt_append (pe_dget hu (pe_fld (pv 0) rfl) (pv 4) (fun _ _ => rfl)) (pa_cons (pv 5) pa_nil))))))), ?_⟩
  cases th with
  | @tup _ hs _ hh al =>
  revert hh
  match hs, al with
  | [_, _], .cons (@Tr.tup _ a xs _ hA alA) (.cons (@Tr.tup _ b ys _ hB alB) .nil) =>
  intro hh
  have lA := alA.length
  have lB := alB.length
  have d2 := hg.d2
  have r2 := hg.r2
  refine ⟨_, rfl, h, _, rfl, (.inl hh), rfl, _, _, rfl, _, _, rfl, rfl, ?_⟩
  -- the names
  refine ⟨_, rfl, a, rfl, ⟨_, (.inl hA)⟩, fun nl hnl => lc_tup (K := K) (a := a) (xs := xs) (fun i H1 => H1 nl = some (.lst (((ds.map nameOf).take i).map V.str)) ∧ Same H H1) ⟨upd_same, sameNew hnl _⟩ (fun i H1 _ ⟨_, s1⟩ => (.inl (hA.map (s1 _)))) ?_ ?_⟩
  · rintro i y H1 hy ⟨e1, s1⟩
    obtain ⟨d, hd, tr⟩ := alA.get hy
    obtain ⟨q, qs, rfl, hq, i0⟩ := dial_tup0 (tr.same s1) (hg.dials d (List.mem_of_getElem? hd))
    have hn : (ds.map nameOf)[i]? = some (nameOf d) := by rw [List.getElem?_map, hd]; rfl
    refine ⟨rfl, _, rfl, q, _, _, _, rfl, rfl, (.inl hq), i0, _, e1, small1000 (by simp; omega), ?_, fun c o e => ?_⟩
    · rw [upd_same, take_more hn, List.map_append]
      rfl
    · rw [upd_ne (ne_of_none e hnl)]
      exact s1 _ _ e
  rintro H1 ⟨e1, s1⟩
  have e1 : H1 nl = some (.lst ((ds.map nameOf).map V.str)) := by rw [e1, List.take_of_length_le (by simp; omega)]
  have xnl : x ≠ nl := ne_of (s1 _ _ hx) e1 (by intro z; cases z)
  refine ⟨_, rfl, x, C, dx, [], rfl, s1 _ _ hx, T.cl, T.nN, by show 0 < 1000; decide, ?_⟩
  generalize hF1 : putF "names" (V.ref nl) [] = fs1
  have lF1 : fs1.length ≤ 1 := by rw [← hF1]; exact length_putF _ _ []
  have k1 : fs1.lookup ("names" : Str) = some (.ref nl) := by rw [← hF1, lookup_putF, if_pos rfl]
  have n1 : fs1.lookup ("by_names" : Str) = none := by rw [← hF1, lookup_putF, if_neg (by decide +kernel)]; rfl
  have o1 : fs1.lookup ("numbers_of" : Str) = none := by rw [← hF1, lookup_putF, if_neg (by decide +kernel)]; rfl
  have kp1 : ∀ c o, c ≠ x → H c = some o → upd H1 x (.ins C dx fs1) c = some o := fun c o hc e => by rw [upd_ne hc]; exact s1 _ _ e
  have x1 : upd H1 x (.ins C dx fs1) x = some (.ins C dx fs1) := upd_same
  have m1 : upd H1 x (.ins C dx fs1) nl = some (.lst ((ds.map nameOf).map V.str)) := by rw [upd_ne xnl.symm]; exact e1
  generalize upd H1 x (.ins C dx fs1) = H2 at kp1 x1 m1
  clear e1 s1 hF1
  -- the dials
  have nx : NoData H x := .ins hx
  have alA2 : TrAll H2 xs ds := alA.but nx kp1
  have hA2 := hA.but nx kp1
  refine ⟨_, rfl, a, rfl, ⟨_, (.inl hA2)⟩, fun D2 hD2 => dc_it (walk_tup (K := K) (a := a) (xs := xs)) (fun i H3 => ∃ kvs : List (Key × V), H3 D2 = some (.dK kvs) ∧ kvs.length ≤ i ∧ (∀ d ∈ ds.take i, ∃ v, valV kvs (Sum.inr (nameOf d)) = some v ∧ Tr H v d) ∧ Same H2 H3) ⟨[], upd_same, Nat.le_refl _, fun _ h => absurd h (by simp), sameNew hD2 _⟩ (fun i H3 _ ⟨_, _, _, _, s3⟩ => (.inl (hA2.map (s3 _)))) ?_ ?_⟩
  · rintro i y H3 _ hi ⟨kvs, e3, l3, f3, s3⟩ ⟨rfl, hy⟩
    obtain ⟨d0, hd0, tr0⟩ := alA.get hy
    obtain ⟨d, hd, tr⟩ := alA2.get hy
    obtain ⟨q, qs, rfl, hq, i0⟩ := dial_tup0 (tr.same s3) (hg.dials d (List.mem_of_getElem? hd))
    refine ⟨rfl, _, rfl, q, _, _, _, rfl, rfl, (.inl hq), i0, _, rfl, kvs, Sum.inr (nameOf d), rfl, e3, small1000 (by omega), _, upd_same, Nat.le_trans (length_putK _ _ _) (by omega), fun d' hd' => ?_, fun c o e => ?_⟩
    · obtain rfl : d = d0 := Option.some.inj (hd.symm.trans hd0)
      rw [valV_put]
      by_cases c : nameOf d' = nameOf d
      · refine ⟨_, by rw [if_pos (by rw [c])], ?_⟩
        have e : d' = d := by
          have hm : d' ∈ ds.take i ++ [d] := by rw [← take_more hd]; exact hd'
          rcases List.mem_append.mp hm with q | q
          · exfalso
            obtain ⟨j, hj, ej⟩ := List.getElem_of_mem q
            rw [List.length_take] at hj
            have hj2 : (ds.map nameOf)[j]? = some (nameOf d') := by
              rw [List.getElem?_map, ← ej, List.getElem_take]
              rw [List.getElem?_eq_getElem (by omega)]
              rfl
            have hi2 : (ds.map nameOf)[i]? = some (nameOf d') := by rw [List.getElem?_map, hd, c]; rfl
            have := nd_ix hg.nd hj2 hi2
            omega
          · exact List.mem_singleton.mp q
        rw [e]
        exact tr0
      · rw [if_neg (fun q => c (Sum.inr.inj q))]
        refine f3 d' ?_
        have hm : d' ∈ ds.take i ++ [d] := by rw [← take_more hd]; exact hd'
        rcases List.mem_append.mp hm with q | q
        · exact q
        · exact absurd (by rw [List.mem_singleton.mp q]) c
    · rw [upd_ne (ne_of_none e hD2)]
      exact s3 _ _ e
  rintro H3 ⟨kvD, e3, _, f3, s3⟩
  have f3 : ∀ d ∈ ds, ∃ v, valV kvD (Sum.inr (nameOf d)) = some v ∧ Tr H v d := fun d hd => f3 d (by rw [List.take_of_length_le (by omega)]; exact hd)
  have xD2 : x ≠ D2 := ne_of (s3 _ _ x1) e3 (by intro z; cases z)
  refine ⟨_, rfl, x, C, dx, fs1, rfl, s3 _ _ x1, T.cl, T.nD, by omega, ?_⟩
  generalize hF2 : putF "dials" (V.ref D2) fs1 = fs2
  have lF2 : fs2.length ≤ 2 := by rw [← hF2]; exact Nat.le_trans (length_putF _ _ _) (by omega)
  have k2 : fs2.lookup ("names" : Str) = some (.ref nl) := by rw [← hF2, lookup_putF, if_neg (by decide +kernel)]; exact k1
  have n2 : fs2.lookup ("by_names" : Str) = none := by rw [← hF2, lookup_putF, if_neg (by decide +kernel)]; exact n1
  have o2 : fs2.lookup ("numbers_of" : Str) = none := by rw [← hF2, lookup_putF, if_neg (by decide +kernel)]; exact o1
  have d2' : fs2.lookup ("dials" : Str) = some (.ref D2) := by rw [← hF2, lookup_putF, if_pos rfl]
  -- the rules
  refine ⟨_, rfl, _, rfl, x, C, dx, fs2, rfl, upd_same, T.cl, T.nR, by omega, ?_⟩
  generalize hF3 : putF "rules" (V.ref b) fs2 = fs3
  have lF3 : fs3.length ≤ 3 := by rw [← hF3]; exact Nat.le_trans (length_putF _ _ _) (by omega)
  have k3 : fs3.lookup ("names" : Str) = some (.ref nl) := by rw [← hF3, lookup_putF, if_neg (by decide +kernel)]; exact k2
  have n3 : fs3.lookup ("by_names" : Str) = none := by rw [← hF3, lookup_putF, if_neg (by decide +kernel)]; exact n2
  have o3 : fs3.lookup ("numbers_of" : Str) = none := by rw [← hF3, lookup_putF, if_neg (by decide +kernel)]; exact o2
  have d3' : fs3.lookup ("dials" : Str) = some (.ref D2) := by rw [← hF3, lookup_putF, if_neg (by decide +kernel)]; exact d2'
  have r3' : fs3.lookup ("rules" : Str) = some (.ref b) := by rw [← hF3, lookup_putF, if_pos rfl]
  have kp3 : ∀ c o, c ≠ x → H c = some o → upd (upd H3 x (.ins C dx fs2)) x (.ins C dx fs3) c = some o := fun c o hc e => by rw [upd_ne hc, upd_ne hc]; exact s3 _ _ (kp1 c o hc e)
  have x3 : upd (upd H3 x (.ins C dx fs2)) x (.ins C dx fs3) x = some (.ins C dx fs3) := upd_same
  have m3 : upd (upd H3 x (.ins C dx fs2)) x (.ins C dx fs3) nl = some (.lst ((ds.map nameOf).map V.str)) := by rw [upd_ne xnl.symm, upd_ne xnl.symm]; exact s3 _ _ m1
  have g3 : upd (upd H3 x (.ins C dx fs2)) x (.ins C dx fs3) D2 = some (.dK kvD) := by rw [upd_ne xD2.symm, upd_ne xD2.symm]; exact e3
  generalize upd (upd H3 x (.ins C dx fs2)) x (.ins C dx fs3) = H4 at kp3 x3 m3 g3
  clear e3 s3 hF2 hF3 kp1 x1 m1 alA2 hA2 k1 n1 k2 n2 hD2 o1 o2 d2'
  -- speaking
  refine ⟨_, rfl, x, C, dx, fs3, _, rfl, x3, T.cl, T.nN, k3, nl, rfl, ⟨_, SqL.of m3⟩, fun D3 hD3 => dc_it (walk_list (K := K) (a := nl) (xs := (ds.map nameOf).map V.str)) (fun i H5 => ∃ kvs : List (Key × V), H5 D3 = some (.dK kvs) ∧ kvs.length ≤ i ∧ (∀ z ∈ (ds.map nameOf).take i, ∃ l : Addr, valV kvs (Sum.inr z) = some (.ref l) ∧ H4 l = none ∧ l ≠ D3 ∧ H5 l = some (.lst [])) ∧ Same H4 H5)
    ⟨[], upd_same, Nat.le_refl _, fun _ hz => absurd hz (by simp), sameNew hD3 _⟩ (fun i H5 _ ⟨_, _, _, _, s5⟩ => SqL.of (s5 _ _ m3)) ?_ ?_⟩
  · rintro i y H5 _ hi ⟨kvs, e5, l5, f5, s5⟩ ⟨rfl, hy⟩
    rw [List.getElem?_map] at hy
    obtain ⟨z, hz, rfl⟩ := Option.map_eq_some_iff.mp hy
    have hi' : i < 12 := by simp at hi; omega
    refine ⟨rfl, _, rfl, by show 0 ≤ sizeLine; decide, fun p np => ?_⟩
    have pD3 : p ≠ D3 := fun q => by rw [q, e5] at np; cases np
    refine ⟨kvs, Sum.inr z, rfl, by rw [upd_ne pD3.symm]; exact e5, small1000 (by omega), _, upd_same, Nat.le_trans (length_putK _ _ _) (by omega), fun z' hz' => ?_, fun c o e => ?_⟩
    · rw [valV_put]
      by_cases c : z' = z
      · subst c
        exact ⟨p, by rw [if_pos rfl], s5.free np, pD3, by rw [upd_ne pD3, upd_same]⟩
      · rw [take_more hz] at hz'
        have hz2 : z' ∈ (ds.map nameOf).take i := by
          rcases List.mem_append.mp hz' with q | q
          · exact q
          · exact absurd (List.mem_singleton.mp q) c
        obtain ⟨l, v1, v2, v3, v4⟩ := f5 z' hz2
        refine ⟨l, by rw [if_neg (fun q => c (Sum.inr.inj q))]; exact v1, v2, v3, ?_⟩
        rw [upd_ne v3, upd_ne (ne_of_none v4 np)]
        exact v4
    · rw [upd_ne (ne_of_none e hD3)]
      exact sameNew np _ _ _ (s5 _ _ e)
  rintro H5 ⟨kvs, e5, _, f5, s5⟩
  rw [List.length_map, List.take_length] at f5
  have xD3 : x ≠ D3 := ne_of (s5 _ _ x3) e5 (by intro z; cases z)
  refine ⟨_, rfl, x, C, dx, fs3, rfl, s5 _ _ x3, T.cl, T.nS, by omega, ?_⟩
  generalize hF4 : putF "speaking" (V.ref D3) fs3 = fs4
  have k4 : fs4.lookup ("names" : Str) = some (.ref nl) := by rw [← hF4, lookup_putF, if_neg (by decide +kernel)]; exact k3
  have n4 : fs4.lookup ("by_names" : Str) = none := by rw [← hF4, lookup_putF, if_neg (by decide +kernel)]; exact n3
  have o4 : fs4.lookup ("numbers_of" : Str) = none := by rw [← hF4, lookup_putF, if_neg (by decide +kernel)]; exact o3
  have d4' : fs4.lookup ("dials" : Str) = some (.ref D2) := by rw [← hF4, lookup_putF, if_neg (by decide +kernel)]; exact d3'
  have r4' : fs4.lookup ("rules" : Str) = some (.ref b) := by rw [← hF4, lookup_putF, if_neg (by decide +kernel)]; exact r3'
  have vS : fs4.lookup ("speaking" : Str) = some (.ref D3) := by rw [← hF4, lookup_putF, if_pos rfl]
  have kp4 : ∀ c o, c ≠ x → H c = some o → upd H5 x (.ins C dx fs4) c = some o := fun c o hc e => by rw [upd_ne hc]; exact s5 _ _ (kp3 c o hc e)
  have x4 : upd H5 x (.ins C dx fs4) x = some (.ins C dx fs4) := upd_same
  have m4 : upd H5 x (.ins C dx fs4) nl = some (.lst ((ds.map nameOf).map V.str)) := by rw [upd_ne xnl.symm]; exact s5 _ _ m3
  have g4 : upd H5 x (.ins C dx fs4) D2 = some (.dK kvD) := by rw [upd_ne xD2.symm]; exact s5 _ _ g3
  have sp4 : Spk H nl (ds.map nameOf) rs (fun z r => ownOf z r = true ∧ r ∈ rs.take 0) 0 (upd H5 x (.ins C dx fs4)) D3 := by
    refine ⟨kvs, by rw [upd_ne xD3.symm]; exact e5, fun z hz => ?_⟩
    obtain ⟨l, w1, w2, w3, w4⟩ := f5 z hz
    have lx : l ≠ x := fun q => by rw [q, x3] at w2; cases w2
    have hl0 : H l = none := by
      cases e : H l with
      | none => rfl
      | some o => rw [kp3 l o lx e] at w2; cases w2
    exact ⟨l, [], [], w1, hl0, fun q => (by rw [q, m3] at w2; cases w2), by rw [upd_ne lx]; exact w4, Nat.le_refl _, .nil, fun _ h => absurd h (by simp), fun _ h => absurd h.2 (by simp)⟩
  generalize upd H5 x (.ins C dx fs4) = H6 at kp4 x4 m4 sp4 g4
  clear e5 f5 s5 hF4 kp3 x3 m3 k3 n3 hD3
  have hB6 := hB.but nx kp4
  have st : ∀ {Ha Hb : Hp} {m : Nat} {dn dn' : Str → PyData → Prop}, Spk H nl (ds.map nameOf) rs dn m Ha D3 → Same Ha Hb → (∀ z r, dn' z r → dn z r) → Spk H nl (ds.map nameOf) rs dn' m Hb D3 := fun {Ha Hb m dn dn'} h s hd => by
    obtain ⟨kvs, e1, e2⟩ := h
    exact ⟨kvs, s _ _ e1, fun z hz => let ⟨l, ys, qs, w1, w2, w3, w4, w5, w6, w7, w8⟩ := e2 z hz; ⟨l, ys, qs, w1, w2, w3, s _ _ w4, w5, w6, w7, fun r h => w8 r (hd z r h)⟩⟩
  refine ⟨_, rfl, b, rfl, ⟨_, (.inl hB6)⟩, for_tup (K := K) (a := b) (xs := ys) (fun i σ H7 => ∃ v4 v5 : Option V, σ = [some (.ref x), some (.ref h), some (.ref a), some (.ref b), v4, v5, none] ∧ H7 x = some (.ins C dx fs4) ∧ H7 nl = some (.lst ((ds.map nameOf).map V.str)) ∧ (Spk H nl (ds.map nameOf) rs (fun z r => ownOf z r = true ∧ r ∈ rs.take i) (2 * i) H7 D3 ∧ H7 D2 = some (.dK kvD)) ∧ ∀ c o, c ≠ x → H c = some o → H7 c = some o)
    ⟨none, none, rfl, x4, m4, ⟨sp4, g4⟩, kp4⟩ (fun i σ H7 _ ⟨_, _, _, _, _, _, kp⟩ => (.inl (hB.but nx kp))) ?_ ?_⟩
  · rintro i y σ H7 hy ⟨v4', v5', rfl, x7, m7, ⟨sp7, g7⟩, kp7⟩
    obtain ⟨r, hr', tr⟩ := alB.get hy
    have hil : i < ys.length := (List.getElem?_eq_some_iff.mp hy).1
    refine ⟨_, rfl, y, ds.map nameOf, r, rfl, tr.but nx kp7, (hg.rules r (List.mem_of_getElem? hr')).rule, fun l zs H8 s8 nl8 hl8 lz mz oz => ?_⟩
    refine ⟨l, rfl, ⟨_, SqL.of hl8⟩, for_list (K := K) (a := l) (xs := zs.map V.str) (fun j σ H9 => ∃ v4 : Option V, σ = [some (.ref x), some (.ref h), some (.ref a), some (.ref b), v4, some y, none] ∧ H9 x = some (.ins C dx fs4) ∧ H9 nl = some (.lst ((ds.map nameOf).map V.str)) ∧ H9 l = some (.lst (zs.map V.str)) ∧ (Spk H nl (ds.map nameOf) rs (fun z q => ownOf z q = true ∧ (q ∈ rs.take i ∨ q = r ∧ z ∈ zs.take j)) (2 * i + j) H9 D3 ∧ H9 D2 = some (.dK kvD)) ∧ (∀ z ∈ ds.map nameOf, ∀ kvs, H9 D3 = some (.dK kvs) → valV kvs (Sum.inr z) ≠ some (.ref l)) ∧ ∀ c o, c ≠ x → H c = some o → H9 c = some o)
      ⟨_, rfl, s8 _ _ x7, s8 _ _ m7, hl8, ⟨st sp7 s8 (fun z q ⟨h1, h2⟩ => ⟨h1, h2.resolve_right (fun h => absurd h.2 (by simp))⟩), s8 _ _ g7⟩, ?_, fun c o hc e => s8 _ _ (kp7 c o hc e)⟩ (fun j σ H9 _ ⟨_, _, _, _, q, _⟩ => SqL.of q) ?_ ?_⟩
    · intro z hz kvs e ev
      obtain ⟨kvs', e1, e2⟩ := sp7
      rw [s8 _ _ e1] at e
      cases e
      obtain ⟨l', ys', _, w1, _, _, w4, _⟩ := e2 z hz
      rw [w1] at ev
      cases ev
      rw [w4] at nl8
      cases nl8
    · rintro j z' σ H9 hj ⟨v4, rfl, x9, m9, l9, ⟨sp9, g9⟩, nl9, kp9⟩
      rw [List.getElem?_map] at hj
      obtain ⟨z, hz, rfl⟩ := Option.map_eq_some_iff.mp hj
      have hzm := mz z (List.mem_of_getElem? hz)
      have hjl : j < zs.length := (List.getElem?_eq_some_iff.mp hz).1
      obtain ⟨kvs, e1, e2⟩ := sp9
      obtain ⟨q, ws, _, w1, w2, w3, w4, w5, _⟩ := e2 z hzm
      have ql : q ≠ l := fun e => nl9 z hzm kvs e1 (by rw [← e]; exact w1)
      have qx : q ≠ x := ne_of w4 x9 (by intro z; cases z)
      have qD : D3 ≠ q := ne_of e1 w4 (by intro z; cases z)
      refine ⟨_, rfl, x, C, dx, fs4, _, rfl, x9, T.cl, T.nS, vS, _, rfl, D3, _, rfl, .inl ⟨_, .inr z, .inl e1, rfl, w1.symm⟩, .inl ⟨rfl, _, SqL.of w4⟩, _, rfl, q, _, _, rfl, rfl, w4, small1000 (by omega), ?_⟩
      refine ⟨_, rfl, by rw [upd_ne qx.symm]; exact x9, by rw [upd_ne w3.symm]; exact m9, by rw [upd_ne ql.symm]; exact l9, ⟨⟨kvs, by rw [upd_ne qD]; exact e1, fun z2 hz2 => ?_⟩, by rw [upd_ne (ne_of g9 w4 (by intro z; cases z))]; exact g9⟩, fun z2 hz2 kvs2 ek => ?_, fun c o hc e => ?_⟩
      · obtain ⟨q2, ws2, qs2, y1, y2, y3, y4, y5, y6, y7, y8⟩ := e2 z2 hz2
        by_cases c : q2 = q
        · subst c
          rw [w4] at y4
          cases y4
          refine ⟨q2, _, qs2 ++ [r], y1, y2, y3, upd_same, by simp; omega, y6.snoc tr, fun e he => ?_, fun e ⟨h1, h2⟩ => ?_⟩
          · rcases List.mem_append.mp he with he | he
            · exact y7 e he
            · rw [List.mem_singleton.mp he]
              exact List.mem_of_getElem? hr'
          · by_cases er : e = r
            · rw [er]
              exact List.mem_append.mpr (.inr (List.mem_singleton.mpr rfl))
            · exact List.mem_append.mpr (.inl (y8 e ⟨h1, .inl (h2.resolve_right fun h => er h.1)⟩))
        · refine ⟨q2, ws2, qs2, y1, y2, y3, by rw [upd_ne c]; exact y4, by omega, y6, y7, fun e ⟨h1, h2⟩ => y8 e ⟨h1, ?_⟩⟩
          rcases h2 with h2 | ⟨h2, h3⟩
          · exact .inl h2
          · rw [take_more hz] at h3
            rcases List.mem_append.mp h3 with h3 | h3
            · exact .inr ⟨h2, h3⟩
            · exfalso
              rw [List.mem_singleton.mp h3] at y1
              rw [w1] at y1
              exact c (V.ref.inj (Option.some.inj y1)).symm
      · rw [upd_ne qD] at ek
        exact nl9 z2 hz2 kvs2 ek
      · rw [upd_ne (ne_of_none e w2)]
        exact kp9 c o hc e
    · rintro σ H9 ⟨v4, rfl, x9, m9, l9, ⟨sp9, g9⟩, nl9, kp9⟩
      refine ⟨_, _, rfl, x9, m9, ⟨?_, g9⟩, kp9⟩
      obtain ⟨kvs, e1, e2⟩ := sp9
      refine ⟨kvs, e1, fun z hz => ?_⟩
      obtain ⟨q, ws, qs, w1, w2, w3, w4, w5, w6, w7, w8⟩ := e2 z hz
      rw [List.length_map] at w5 w8
      refine ⟨q, ws, qs, w1, w2, w3, w4, by omega, w6, w7, fun e ⟨h1, h2⟩ => w8 e ⟨h1, ?_⟩⟩
      rw [take_more hr'] at h2
      rcases List.mem_append.mp h2 with h2 | h2
      · exact .inl h2
      · have er := List.mem_singleton.mp h2
        refine .inr ⟨er, ?_⟩
        rw [List.take_length]
        exact oz z (by rw [← er]; exact h1)
  · rintro σ H7 ⟨v4', v5', rfl, x7, m7, ⟨sp7, g7⟩, kp7⟩
    refine k nl D2 b D3 H7 ⟨⟨dx, fs4, x7, k4, d4', r4', vS, n4, o4⟩, m7, ⟨kvD, g7, fun d hd => ?_⟩, ?_, ?_⟩ kp7
    · obtain ⟨v, h1, h2⟩ := f3 d hd
      exact ⟨v, h1, h2.but nx kp7⟩
    · exact Tr.but nx kp7 (.tup hB alB)
    · obtain ⟨kvs, e1, e2⟩ := sp7
      refine ⟨kvs, e1, fun z hz => ?_⟩
      obtain ⟨q, ws, qs, w1, w2, w3, w4, w5, w6, w7, w8⟩ := e2 z hz
      refine ⟨q, ws, qs, w1, w4, by have := alB.length; omega, TrAll.but nx kp7 w6, w7, fun e he ho => w8 e ⟨ho, ?_⟩⟩
      rw [List.take_of_length_le (by omega)]
      exact he
end
end Pk
section
set_option maxHeartbeats 1000000
/-! fits_none, denies, gives. -/
namespace Pk
open PySem L2
abbrev sFitsNone : Stmt := topH 44
abbrev sDenies : Stmt := topH 45
abbrev sGivenByOne : Stmt := topH 46
abbrev sGiven : Stmt := topH 47
/-- a saying: the dial, least or most, the number -/
abbrev Say := Str × Str × Int
abbrev sayV (s : Say) : List V := [V.str s.1, V.str s.2.1, V.int s.2.2]
abbrev sayP (s : Say) : PyData := .tuple [.str s.1, .str s.2.1, .int s.2.2]
/-- a dial's ends -/
def endsD : PyData → Int × Int
  | .tuple [_, .int lo, .int hi, _, _, _] => (lo, hi)
  | _ => (0, 0)
def endsOf (ds : List PyData) (z : Str) : Int × Int := match ds.find? (fun d => nameOf d == z) with
  | some d => endsD d
  | none => (0, 0)
def leastS (s : Say) : Bool := decide (s.2.1 = "least")
/-- no number of the dial fits it -/
def fitN (e : Str → Int × Int) (s : Say) : Bool := if leastS s = true then decide ((e s.1).2 < s.2.2) else decide (s.2.2 < (e s.1).1)
/-- what the saying leaves of the dial -/
def cutE (e : Int × Int) (s : Say) : Int × Int := if leastS s = true then (if s.2.2 > e.1 then s.2.2 else e.1, e.2) else (e.1, if s.2.2 < e.2 then s.2.2 else e.2)
def denyS (e : Str → Int × Int) (s o : Say) : Bool := fitN e s || (decide (s.1 = o.1) && decide ((cutE (cutE (e s.1) s) o).2 < (cutE (cutE (e s.1) s) o).1))
def giveS (s o : Say) : Bool := decide (s.1 = o.1) && (decide (s.2.1 = o.2.1) && (if leastS s = true then decide (o.2.2 ≤ s.2.2) else decide (s.2.2 ≤ o.2.2)))
/-- a saying of a house -/
structure SayH (ns : List Str) (s : Say) : Prop where
  nm : s.1 ∈ ns
  so : s.2.1 ∈ sorts2
/-- the dial of a name -/
theorem dial_of {H : Hp} {dl : Addr} {ds : List PyData} {z : Str} (D : Dls H dl ds) (hz : z ∈ ds.map nameOf) (hg : ∀ d ∈ ds, DialG d) : ∃ (kvs : List (Key × V)) (b : Addr) (w : Str) (u dn : Int), H dl = some (.dK kvs) ∧ valV kvs (Sum.inr z) = some (.ref b) ∧ Rd H b (.tup [.str z, .int (endsOf ds z).1, .int (endsOf ds z).2, .str w, .int u, .int dn]) := by
  obtain ⟨kvs, hk, hv⟩ := D
  cases e : ds.find? (fun d => nameOf d == z) with
  | none =>
    exfalso
    obtain ⟨d, hd, rfl⟩ := List.mem_map.mp hz
    have := List.find?_eq_none.mp e d hd
    simp at this
  | some d =>
    have hd := List.mem_of_find?_eq_some e
    have hn : nameOf d = z := by
      have := List.find?_some e
      simpa using this
    obtain ⟨v, h1, h2⟩ := hv d hd
    obtain ⟨b, nm, way, lo, hi', up, dn, eb, hb0, _, _, _, _, ed⟩ := dial_tup h2 (hg d hd)
    rw [hn, eb] at h1
    have ez : z = nm := by rw [← hn, ed]; rfl
    have ee : endsOf ds z = (lo, hi') := by
      unfold endsOf
      rw [e, ed]
      rfl
    rw [ee]
    subst ez
    exact ⟨kvs, b, way, up, dn, hk, h1, hb0⟩
/-- what the walk knows of a Layout and of a saying of its house -/
structure LS (C : Addr) (H : Hp) (lx nl dl rb sp : Addr) (ds rs : List PyData) : Prop where
  L : LayF C H lx nl dl rb sp ds rs
  g : HouseG ds rs
def spFits (C : Addr) : Sp := fun vs H Q _ => ∃ (lx nl dl rb sp a : Addr) (ds rs : List PyData) (s : Say), vs = [.ref lx, .ref a] ∧ LS C H lx nl dl rb sp ds rs ∧ Rd H a (.tup (sayV s)) ∧ SayH (ds.map nameOf) s ∧ Q (.bl (fitN (endsOf ds) s)) H
section
variable {P : Program} {w : World} {K : PySem.W.Frag} {mg : Str → Option Value} {base : Heap}
theorem scFitsNone : FnScope ["layout", "saying", "name", "sort", "i", "dial"] ["layout", "saying"] (defScope sFitsNone) := ⟨rfl, rfl, rfl, by decide +kernel, rfl, by decide +kernel, by decide +kernel⟩
theorem dec_least (s : Say) : decide (V.str s.2.1 = V.str "least") = leastS s := by
  unfold leastS
  rw [Bool.eq_iff_iff, decide_eq_true_eq, decide_eq_true_eq]
  exact ⟨fun h => V.str.inj h, fun h => by rw [h]⟩
theorem ok_fitsNone {f C : Addr} {fd : FuncData} (F : Fun K "fits_none" "fits_none" sFitsNone f fd) (T : LayTxt K mg C) : FnOk P w K mg base CX0 1 f fd ["layout", "saying"] (spFits C) := by
  refine F.ok scFitsNone (fun vs H Q E h => ?_) (fun cdv A outer s H vs Q E hr h => ?_)
  · obtain ⟨lx, nl, dl, rb, sp, a, ds, rs, s, rfl, _⟩ := h
    rfl
  obtain ⟨lx, nl, dl, rb, sp, a, ds, rs, y, rfl, ls, ha, hy, k⟩ := h
  have hu := hu_of hr
  refine ⟨_, pss_cons (ps_asg (pv 1) (pg_tup (by rfl) (pgs_cons (pg_name (i := 2) scFitsNone.nd rfl (.inl rfl)) <| pgs_cons (pg_name (i := 3) scFitsNone.nd rfl (.inl rfl)) <| pgs_cons (pg_name (i := 4) scFitsNone.nd rfl (.inl rfl)) pgs_nil))) <|
    pss_cons (ps_set (i := 5) scFitsNone.nd rfl (.inl rfl) (pe_dget hu (pe_fld (pv 0) rfl) (pv 2) (fun _ _ => rfl))) <|
    pss_one (ps_ret (pe_ifExp (pt_cmpR op_eq (pv 3) pe_str (nomark _)) (pe_cmpR op_gt (pv 4) (pe_ix ix_tup (pv 5) pe_int (fun _ _ => rfl)) (nomark _)) (pe_cmpR op_lt (pv 4) (pe_ix ix_tup (pv 5) pe_int (fun _ _ => rfl)) (nomark _)))), ?_⟩
  obtain ⟨dx, fs, l1, l2, l3, l4, l5, l6⟩ := ls.L.ob
  obtain ⟨kvs, b, wy, u, dn, hk, hv, hb⟩ := dial_of ls.L.dl hy.nm ls.g.dials
  refine ⟨_, rfl, a, _, rfl, (.inl ha), rfl, _, _, rfl, _, _, rfl, _, _, rfl, rfl, ?_⟩
  refine ⟨_, rfl, lx, C, dx, fs, _, rfl, l1, T.cl, T.nD, l3, _, rfl, dl, _, rfl, .inl ⟨kvs, Sum.inr y.1, .inl hk, rfl, hv.symm⟩, ?_⟩
  refine ⟨_, rfl, rfl, _, rfl, ?_⟩
  rw [dec_least]
  unfold fitN at k
  cases c : leastS y with
  | true =>
    rw [c, if_pos rfl] at k
    exact iteT ⟨_, rfl, _, rfl, b, _, _, _, rfl, rfl, (.inl hb), rfl, _, _, rfl, rfl, k⟩
  | false =>
    rw [c, if_neg Bool.false_ne_true] at k
    exact iteF ⟨_, rfl, _, rfl, b, _, _, _, rfl, rfl, (.inl hb), rfl, _, _, rfl, rfl, k⟩
end
end Pk
end
section
set_option maxHeartbeats 2000000
/-! try .. except X as n, the error kept behind the suite. -/
namespace Pk
open PySem PySem.Spec PyProof.Rows L2
/-- at a: an error that was caught, of the class cls, its dict at d -/
def keptX (a : Addr) (cls : Value) (d : Option Addr) : HO := .ext fun h => ∃ (oe : Obj) (vs : Array Value), h.get? a = some oe ∧ Zc cls d oe ∧ oe.data = .fields vs
theorem keptX_ok {P : Program} {w : World} {H : Hp} {h : Heap} {a : Addr} {cls : Value} {d : Option Addr} {oe : Obj} {vs : Array Value} (e : h.get? a = some oe) (z : Zc cls d oe) (hd : oe.data = .fields vs) : ObjOk P w H h a (keptX a cls d) :=
  ⟨⟨oe, vs, e, z, hd⟩, ⟨oe, e⟩, fun _ _ ⟨o, v, q, r⟩ k => ⟨o, v, k o q, r⟩⟩
section
variable {X : Cx} {pins : List (Addr × Obj)} {σ : L2.St} {H : Hp} {s : Shared}
/-- what came since the entry may be tracked from now on -/
theorem track {a : Addr} {o : HO} (I : L2.Inv X pins σ H s) (na : H a = none) (n0 : X.s_0.heap.get? a = none) (nL : a ≠ X.env.locals) (nC : ∀ x c, X.env.cells.lookup x = some c → c ≠ a) (np : ∀ p ∈ X.pn ++ pins, p.1 ≠ a) (new : ObjOk X.prog X.w (upd H a o) s.heap a o) : L2.Inv X pins σ (upd H a o) s where
  ok := I.ok
  os := I.os
  bare := I.bare
  base := ⟨I.base.keep, I.base.slot, fun b u e n hx => by
      rw [upd_ne (fun z => by rw [z, n0] at e; cases e)]
      exact I.base.free b u e n hx, I.base.there, fun b xs e => by
      have q := I.base.tups b xs e
      rw [upd_ne (ne_of_none q na)]
      exact q, fun b u v e => by
      have q := I.base.frzs b u v e
      rw [upd_ne (ne_of_none q na)]
      exact q, fun b ps e => by
      obtain ⟨more, q⟩ := I.base.tbls b ps e
      exact ⟨more, by rw [upd_ne (ne_of_none q na)]; exact q⟩⟩
  loc := I.loc
  cell := I.cell
  free := by rw [upd_ne nL.symm]; exact I.free
  freeC := fun x c e => by rw [upd_ne (nC x c e)]; exact I.freeC x c e
  pin := fun p hp => by
    obtain ⟨h1, h2, h3⟩ := I.pin p hp
    exact ⟨h1, by rw [upd_ne (np p hp)]; exact h2, h3⟩
  hok := I.hok.laidN (fun _ _ e => e) na new
  len := I.len
end
def wKeep (K : PySem.W.Frag) (c : Value) (i : Nat) (ts : Addr → Value → Option Addr → TS) (Wout : WX) (D : Ends) : WX := fun cls d σ H =>
  ∃ b, PySem.W.exmOne K cls c = some b ∧ (b = true → ∀ a, H a = none → ts a cls d { nx := fun σ' H' => H' a = none → D.nx (σ'.set i none) (upd H' a (keptX a cls d)), rt := fun _ _ => False, bk := fun _ _ => False, ct := fun _ _ => False } (σ.set i (some (.ref a))) H) ∧ (b = false → Wout cls d σ H)
section
variable {X : Cx} {x n : Str} {c : Value} {i : Nat} {body suite : List Stmt} {b0 : Stmt} {np pos pos' : Pos} {tb : WX → TS} {ts : Addr → Value → Option Addr → TS} {Wout : WX}
theorem ps_try_keep (hex : X.ex = []) (hs : X.stack = X.env :: X.outer) (hf : X.env.frame = some X.env.locals) (hN : X.N.Nodup) (hi : X.N[i]? = some n) (hln : X.env.kindOf n = some .local) (hc : Names X x c) (tk : Takes X Wout)
    (hb : ∀ (W : WX) (pn : List (Addr × Obj)) (xe : Value → Shared → Prop), Takes (X.tr pn xe) W → PassesOwn (model X.prog X.w) X.A X.env xe → PSs (X.tr pn xe) body (tb W))
    (hsu : ∀ (a : Addr) (oe : Obj) (cls : Value) (d : Option Addr) (pn : List (Addr × Obj)), Zc cls d oe → (∃ vs, oe.data = .fields vs) → PSs (X.suite a ((a, oe) :: pn)) (b0 :: suite) (ts a cls d)) :
    PS X (.Try body [.ExceptHandler (some (.Name x np)) (some n) (b0 :: suite) pos'] [] [] pos) (fun D σ H => tb (wKeep X.K c i ts Wout D) D σ H) := by
  refine ⟨fun pins s σ H D I h => ?_⟩
  have ok := I.ok
  have hfr : X.A.frames = some (X.env :: X.outer) := by rw [ok.frames, hs]
  refine wpAny_Try_except (wpAny_mono ((hb (wKeep X.K c i ts Wout D) (X.pn ++ pins) (fun e u1 => wpAny (model X.prog X.w) X.A (noteFrame e X.env) (fun _ u2 => wpAny (model X.prog X.w) X.A (setFlight e none) (fun _ u3 =>
    wpAny (model X.prog X.w) X.A (handleBy e X.env [.ExceptHandler (some (.Name x np)) (some n) (b0 :: suite) pos']) (SP X pins D) X.xe u3) X.xe u2) X.xe u1) (fun u s' xx => ?_) PassesOwn.looking).run [] s σ H D (I.toTry _) h) (fun f s1 hsp => ?_) (fun e s1 he => he))
  · obtain ⟨a, B, sI, pins', σ', H', cls, d, rfl, J', nb, up, sky, na, os, ag, b, hb1, hyes, hno⟩ := xx
    have J : L2.Inv X pins σ' H' sI := J'.ofTry ok
    show wpAny (model X.prog X.w) X.A (noteFrame (.ref a) X.env) _ _ _
    refine Sky.land Zc.steady hfr hf (show Sky B (X.env :: X.outer) a (Zc cls d) X.env.locals s'.heap by rw [← hs]; exact sky) fun h3 fl3 up3 => ?_
    have J3 : L2.Inv X pins σ' H' { s' with heap := h3 } := J.landed nb fl3.1 (up.trans up3) os ag
    obtain ⟨oe3, vs3, he3, hz3, hd3⟩ := fl3.there
    have nfr : a ∉ frs (X.env :: X.outer) := fun hm => by
      obtain ⟨_, o', e', hnf⟩ := fl3.2.2.1.mem hm
      rw [he3] at e'
      cases e'
      exact hnf _ hd3
    have nI : sI.heap.get? a = none := by
      cases e : sI.heap.get? a with
      | none => rfl
      | some o =>
        have q := nb a o e (by rw [hs]; exact nfr)
        rw [fl3.2.1] at q
        cases q
    have n0 : X.s_0.heap.get? a = none := by
      cases e : X.s_0.heap.get? a with
      | none => rfl
      | some o =>
        obtain ⟨o', q⟩ := J.base.there a o e (by rw [hex]; simp)
        rw [nI] at q
        cases q
    have nP : ∀ p ∈ X.pn ++ pins, p.1 ≠ a := fun p hp z => by
      have q := (J.pin p hp).1
      rw [z, nI] at q
      cases q
    have nL : a ≠ X.env.locals := fun z => nfr (List.mem_filterMap.mpr ⟨X.env, List.mem_cons_self, by rw [hf, z]⟩)
    have nF : a ∉ X.fs := fun hm => by
      obtain ⟨e, he, q⟩ := List.mem_filterMap.mp hm
      exact nfr (List.mem_filterMap.mpr ⟨e, List.mem_cons_of_mem _ he, q⟩)
    have S3 := J3.suite he3 hd3 na nL nF
    refine wpAny_handleBy_cons (codeAny_handlers_test ?_) (by intro q; cases q)
    have LT : PySem.W.Looks (model X.prog X.w) h3 (typeOf (.ref a)) cls := fun A Q E u k q => wpAny_typeOf_ref (k _ _ he3) (by rw [hz3.1]; exact q)
    have LM := PySem.W.exm_one (M := model X.prog X.w) J3.kIn LT hb1
    have test : ∀ {Q : Value → Shared → Prop} {E : Value → Shared → Prop}, Q c { s' with heap := h3 } → wpAny (model X.prog X.w) (X.A.mark (some (.ref a))) (eval (.Name x np) X.env) Q E { s' with heap := h3 } := fun {Q E} q => by
      obtain ⟨hg, hdbg, hm | ⟨hm, hv, hnn⟩⟩ := hc
      · exact ld_glob (X := X.suite a ((a, oe3) :: (X.pn ++ pins))) S3 hg hm q hdbg
      · exact ld_blt (X := X.suite a ((a, oe3) :: (X.pn ++ pins))) S3 hg hm hv q hnn hdbg
    refine test (LM.here ?_)
    cases b with
    | true =>
      refine codeAny_handlers_suite_as (HandSPX.lands_againZ fl3 fun h4 fl4 up4 => ?_)
      have J4 : L2.Inv X pins σ' H' { s' with heap := h4 } := J.landed nb fl4.1 ((up.trans up3).trans up4) os ag
      obtain ⟨oe4, vs4, he4, hz4, hd4⟩ := fl4.there
      have S4 := J4.suite he4 hd4 na nL nF
      refine store_ok (X := X.suite a ((a, oe4) :: (X.pn ++ pins))) (v := .ref a) S4 hN hi (.inl hln) rfl (fun s5 S5 => ?_) (.inr hln)
      refine wpAny_mono ((hsu a oe4 cls d (X.pn ++ pins) hz4 ⟨_, hd4⟩).run [] s5 _ H' _ S5 (hyes rfl a na)) (fun f s6 hsp => ?_) (fun _ _ z => False.elim z)
      cases f with
      | next =>
        obtain ⟨σ6, H6, S6, q6⟩ := hsp
        obtain ⟨e6, n6, _⟩ := S6.pin (a, oe4) (List.mem_append_left _ List.mem_cons_self)
        have I6 := S6.unsuite ok
        have I7 := track (o := keptX a cls d) I6 n6 n0 nL (fun y cc hy z => by
          obtain ⟨v, o, h1, h2⟩ := I6.cell y cc hy
          rw [z] at h1
          have h1' : s6.heap.get? a = some o := h1
          rw [show s6.heap.get? a = some oe4 from e6] at h1'
          cases h1'
          rw [hd4] at h2
          cases h2) nP (keptX_ok e6 hz4 hd4)
        exact gone_ok I7 hN hi hln fun s7 J7 => ⟨_, _, J7, q6 n6⟩
      | brk =>
        obtain ⟨_, _, _, q6⟩ := hsp
        exact q6.elim
      | cont =>
        obtain ⟨_, _, _, q6⟩ := hsp
        exact q6.elim
      | ret u =>
        obtain ⟨_, _, _, _, _, q6⟩ := hsp
        exact q6.elim
    | false =>
      show wpAny _ X.A (handleBy (.ref a) X.env []) _ _ _
      refine wpAny_handleBy_nil ?_
      obtain ⟨k1, k2, k3, oe, vs, T, oT, ts', he, hz, hd, h1, hr⟩ := id fl3
      unfold PySem.passOn
      refine wpAny_bind (wpAny_field he hd h1 ?_)
      rw [if_neg (show ¬ ((Value.ref T == Value.none) = true) from by simp)]
      have fin : wpAny (model X.prog X.w) X.A (setFlight (.ref a) X.env.frame) (fun _ u4 => wpAny (model X.prog X.w) X.A (throw (.ref a) : Sem Flow) (SP X pins D) X.xe u4) X.xe { s' with heap := h3 } := by
        rw [hf]
        refine HandSPX.setFlight_upZ fl3 fun h4 hh4 up4 => wpAny_throw (tk _ _ ?_)
        exact ⟨a, B, sI, pins, σ', H', cls, d, rfl, J, nb, (up.trans up3).trans up4, .inr (.inr (by rw [hs]; exact hh4)), na, os, ag, hno rfl⟩
      first
        | exact wpAny_bind (wpAny_pure (wpAny_bind fin))
        | exact wpAny_bind fin
  · cases f with
    | next =>
      obtain ⟨σ', H', J', q⟩ := hsp
      exact wpAny_execs_nil ⟨σ', H', J'.ofTry ok, q⟩
    | brk =>
      obtain ⟨σ', H', J', q⟩ := hsp
      exact ⟨σ', H', J'.ofTry ok, q⟩
    | cont =>
      obtain ⟨σ', H', J', q⟩ := hsp
      exact ⟨σ', H', J'.ofTry ok, q⟩
    | ret u =>
      obtain ⟨v, σ', H', J', r, q⟩ := hsp
      exact ⟨v, σ', H', J'.ofTry ok, r, q⟩
end
section
variable {X : Cx}
/-- what isinstance asks of an error that was kept -/
theorem kept_kit {pz : List (Addr × Obj)} {σ : L2.St} {H : Hp} {s : Shared} {a C : Addr} (I : L2.Inv X pz σ H s) (e : H a = some (keptX a (.ref C) none)) (TT : ExcC X.K C) : ∃ P : Heap → Prop, PySem.W.KitX X.K (.ref a) (.ref C) P ∧ P s.heap := by
  have hcl : (PySem.W.clsIn X.K C).isSome = true := by
    obtain ⟨cd, hc, _⟩ := PySem.W.any_some TT.hd
    rw [hc]
    rfl
  obtain ⟨⟨oe, vs, ho, hy, hd⟩, _, _⟩ := I.hok a _ e
  refine ⟨_, PySem.W.kitx_exc (ox := oe) (od := none) hcl TT.hg TT.hk TT.hs TT.ha TT.hn TT.ht TT.hm, ?_⟩
  obtain ⟨oc, oq, oda, osl⟩ := oe
  obtain ⟨h1, h2⟩ := hy
  dsimp only at h1 h2 hd
  subst h1 h2 hd
  exact ⟨ho, rfl, rfl, trivial⟩
theorem call_isK : CallR X (.builtin "isinstance") (fun xs H Q => ∃ (a C : Addr) (c : V) (u : Value) (b : Bool), xs = [.ref a, c] ∧ H a = some (keptX a (.ref C) none) ∧ ExcC X.K C ∧ ClsV c u ∧ PySem.W.kitOne X.K (.ref C) u = some b ∧ Q (.bl b) H) := by
  intro pz s σ H xs ua Q I r h
  obtain ⟨a, C, c, u, b, rfl, ea, TT, k, e, q⟩ := h
  obtain ⟨u1, u2, rfl, ra, rb⟩ := vals2 r
  have e2 := k.eq rb
  subst e2
  cases (show u1 = Value.ref a from ra)
  obtain ⟨P, Z, p⟩ := kept_kit I ea TT
  exact PySem.W.kia_one Z I.kIn p e (fun z => nomatch z) fun tz => ⟨.bl b, H, I.tok tz, rfl, q⟩
theorem call_isKT : CallR X (.builtin "isinstance") (fun xs H Q => ∃ (a C : Addr) (tp : Addr) (cs : List V) (ws : List Value) (b : Bool), xs = [.ref a, .ref tp] ∧ H a = some (keptX a (.ref C) none) ∧ ExcC X.K C ∧ H tp = some (.tup cs) ∧ Paired ClsV cs ws ∧ PySem.W.kitAny X.K (.ref C) ws = some b ∧ Q (.bl b) H) := by
  intro pz s σ H xs ua Q I r h
  obtain ⟨a, C, tp, cs, ws, b, rfl, ea, TT, htp, k, e, q⟩ := h
  obtain ⟨u1, u2, rfl, ra, rb⟩ := vals2 r
  cases (show u2 = Value.ref tp from rb)
  cases (show u1 = Value.ref a from ra)
  obtain ⟨P, Z, p⟩ := kept_kit I ea TT
  obtain ⟨_, itz, rz, o, h1, h2, n, h3⟩ := (show ObjOk X.prog X.w H s.heap tp (.tup cs) from I.hok tp _ htp)
  have e3 := ClsV.all k rz
  subst e3
  obtain ⟨oc, oq, dt, sl⟩ := o
  simp only at h2 h3
  subst h2 h3
  exact PySem.W.kia_tup Z I.kIn p h1 e (fun z => nomatch z) fun tz => ⟨.bl b, H, I.tok tz, rfl, q⟩
end
end Pk
end
/-! by_names, broken_rules, stands, check_house. -/
namespace Pk
open PySem L2
abbrev sCheckH : Stmt := topH 38
abbrev sBrkR : Stmt := topH 40
abbrev sStands : Stmt := topH 41
/-- all stays, but these tables may grow -/
def GrS (Ps : List Addr) (H H' : Hp) : Prop := (∀ P ∈ Ps, GxR.TabG H' P) ∧ ∀ b o, b ∉ Ps → H b = some o → H' b = some o
def Tabs (Ps : List Addr) (H : Hp) : Prop := ∀ P ∈ Ps, GxR.TabG H P
theorem Tabs.not {Ps : List Addr} {H : Hp} {a : Addr} {o : HO} (t : Tabs Ps H) (h : H a = some o) (n : ∀ q, o ≠ .tbl q) : a ∉ Ps := fun hm => by
  obtain ⟨ps, z, _⟩ := t a hm
  rw [h] at z
  cases z
  exact n ps rfl
theorem GrS.refl {Ps : List Addr} {H : Hp} (t : Tabs Ps H) : GrS Ps H H := ⟨t, fun _ _ _ e => e⟩
theorem GrS.trans {Ps : List Addr} {H H1 H2 : Hp} (a : GrS Ps H H1) (b : GrS Ps H1 H2) : GrS Ps H H2 := ⟨b.1, fun c o hc e => b.2 c o hc (a.2 c o hc e)⟩
theorem GrS.of {Ps : List Addr} {P : Addr} {H H' : Hp} (hP : P ∈ Ps) (t : Tabs Ps H) (g : Gr P H H') : GrS Ps H H' := ⟨fun Q hQ => by
  by_cases e : Q = P
  · rw [e]; exact g.1
  · obtain ⟨ps, z, y⟩ := t Q hQ
    exact ⟨ps, g.2 _ _ e z, y⟩, fun b o hb e => g.2 b o (fun z => hb (by rw [z]; exact hP)) e⟩
theorem GrS.same {Ps : List Addr} {H H' : Hp} (t : Tabs Ps H) (s : Same H H') : GrS Ps H H' := ⟨fun Q hQ => let ⟨ps, z, y⟩ := t Q hQ; ⟨ps, s _ _ z, y⟩, fun b o _ e => s b o e⟩
theorem GrS.at {Ps : List Addr} {H H' : Hp} {a : Addr} {o : HO} (g : GrS Ps H H') (t : Tabs Ps H) (h : H a = some o) (n : ∀ q, o ≠ .tbl q) : H' a = some o := g.2 a o (t.not h n) h
theorem _root_.L2.Rd.grs {Ps : List Addr} {H H' : Hp} (t : Tabs Ps H) (g : GrS Ps H H') {a : Addr} {xs : List V} (h : Rd H a (.tup xs)) : Rd H' a (.tup xs) := by
  rcases h with h | ⟨o, h⟩
  · exact .inl (g.at t h (by intro q z; cases z))
  · exact .inr ⟨o, g.at t h (by intro q z; cases z)⟩
mutual
theorem Tr.grs {Ps : List Addr} {H H' : Hp} (t : Tabs Ps H) (g : GrS Ps H H') : ∀ {v : V} {d : PyData}, Tr H v d → Tr H' v d
  | _, _, .non => .non
  | _, _, .bl b => .bl b
  | _, _, .int i => .int i
  | _, _, .str x => .str x
  | _, _, .lst h a => .lst (g.at t h (by intro q z; cases z)) (TrAll.grs t g a)
  | _, _, .tup h a => .tup (h.grs t g) (TrAll.grs t g a)
  | _, _, .dct h n e a => .dct (g.at t h (by intro q z; cases z)) n e (TrAll.grs t g a)
theorem TrAll.grs {Ps : List Addr} {H H' : Hp} (t : Tabs Ps H) (g : GrS Ps H H') : ∀ {vs : List V} {ds : List PyData}, TrAll H vs ds → TrAll H' vs ds
  | _, _, .nil => .nil
  | _, _, .cons h u => .cons (Tr.grs t g h) (TrAll.grs t g u)
end
/-! numbers told by data -/
def intOf : PyData → Int
  | .int i => i
  | _ => 0
def intsOf : PyData → List Int
  | .tuple es => es.map intOf
  | _ => []
theorem nums_ints {ds es : List PyData} (hl : es.length = ds.length) (h : ((ds.zip es).all fun p => numD p.1 p.2) = true) : es = (es.map intOf).map PyData.int := by
  induction es generalizing ds with
  | nil => rfl
  | cons e es ih =>
    cases ds with
    | nil => simp at hl
    | cons d ds =>
      rw [List.zip_cons_cons, List.all_cons, Bool.and_eq_true] at h
      have q : ∃ i, e = .int i := by
        have h1 := h.1
        unfold numD at h1
        split at h1
        · exact whole_is h1
        · cases h1
      obtain ⟨i, rfl⟩ := q
      rw [List.map_cons, List.map_cons, ← ih (ds := ds) (by simpa using hl) h.2]
      rfl
theorem trInts {H : Hp} : ∀ {xs : List V} {is : List Int}, TrAll H xs (is.map PyData.int) → xs = is.map V.int
  | [], [], _ => rfl
  | _ :: _, _ :: _, .cons h t => by
    cases h.intV
    rw [List.map_cons, ← trInts t]
  | [], _ :: _, h => nomatch h
  | _ :: _, [], h => nomatch h
/-- the numbers of the rules that don't hold -/
def brk (f : Str → Int) (k : Nat) : List PyData → List Nat
  | [] => []
  | r :: rs => if ruleH f r = true then brk f (k + 1) rs else k :: brk f (k + 1) rs
theorem brk_snoc (f : Str → Int) (r : PyData) : ∀ (rs : List PyData) (k : Nat), brk f k (rs ++ [r]) = brk f k rs ++ (if ruleH f r = true then [] else [k + rs.length])
  | [], k => by
    show (if ruleH f r = true then brk f (k + 1) [] else k :: brk f (k + 1) []) = [] ++ _
    by_cases c : ruleH f r = true
    · rw [if_pos c, if_pos c]; rfl
    · rw [if_neg c, if_neg c]; rfl
  | x :: rs, k => by
    show (if ruleH f x = true then brk f (k + 1) (rs ++ [r]) else k :: brk f (k + 1) (rs ++ [r])) = (if ruleH f x = true then brk f (k + 1) rs else k :: brk f (k + 1) rs) ++ _
    rw [brk_snoc f r rs (k + 1), List.length_cons, show k + 1 + rs.length = k + (rs.length + 1) by omega]
    by_cases c : ruleH f x = true
    · rw [if_pos c, if_pos c]
    · rw [if_neg c, if_neg c]; rfl
theorem brk_len (f : Str → Int) : ∀ (rs : List PyData) (k : Nat), (brk f k rs).length ≤ rs.length
  | [], _ => Nat.le_refl _
  | r :: rs, k => by
    show (if ruleH f r = true then brk f (k + 1) rs else k :: brk f (k + 1) rs).length ≤ rs.length + 1
    have := brk_len f rs (k + 1)
    by_cases c : ruleH f r = true
    · rw [if_pos c]; omega
    · rw [if_neg c, List.length_cons]; omega
/-- the numbers by names -/
def atE (ds : List PyData) (d : PyData) : List (Str × Int) := (ds.map nameOf).zip (intsOf d)
def brkD (ds rs : List PyData) (d : PyData) : List Nat := brk (lookE (atE ds d)) 0 rs
def natsV (ns : List Nat) : List V := ns.map fun (n : Nat) => V.int (n : Int)
def spByN (C : Addr) : Sp := fun vs H Q _ => ∃ (x t nl : Addr) (ns : List Str) (is : List Int), vs = [.ref x, .ref t] ∧ LayAt C H x nl ns ∧ Rd H t (.tup (is.map V.int)) ∧ ns.length = is.length ∧ ns.Nodup ∧ ∀ p, H p = none → Q (.ref p) (upd H p (.dK ((ns.zip is).map kvOf)))
theorem zip_keys : ∀ {ns : List Str} {is : List Int}, ns.length = is.length → (ns.zip is).map (·.1) = ns
  | [], [], _ => rfl
  | _ :: _, _ :: _, h => by
    rw [List.zip_cons_cons, List.map_cons, zip_keys (by simpa using h)]
  | [], _ :: _, h => by simp at h
  | _ :: _, [], h => by simp at h
theorem zip_kv : ∀ (ns : List Str) (is : List Int), (ns.zip (is.map V.int)).map strKv = (ns.zip is).map kvOf
  | [], _ => by simp
  | _ :: _, [] => by simp
  | n :: ns, i :: is => by
    rw [List.map_cons, List.zip_cons_cons, List.zip_cons_cons, List.map_cons, List.map_cons, zip_kv ns is]
    rfl
section
variable {P : Program} {w : World} {K : PySem.W.Frag} {mg : Str → Option Value} {base : Heap}
theorem scByN : FnScope ["self", "numbers"] ["self", "numbers"] (defScope sByN) := ⟨rfl, rfl, rfl, by decide +kernel, rfl, by decide +kernel, by decide +kernel⟩
theorem ok_byN {f C : Addr} {fd : FuncData} (F : Fun K "by_names" "Layout.by_names" sByN f fd) (T : LayTxt K mg C) (md : mg "dict" = none) (mz : mg "zip" = none) : FnOk P w K mg base CX0 1 f fd ["self", "numbers"] (spByN C) := by
  refine F.ok scByN (fun vs H Q E h => ?_) (fun cdv A outer s H vs Q E hr h => ?_)
  · obtain ⟨x, t, nl, ns, is, rfl, _⟩ := h
    rfl
  obtain ⟨x, t, nl, ns, is, rfl, L, ht, hl, nd, k⟩ := h
  obtain ⟨⟨dx, fs, hx, k1, _⟩, hn⟩ := L
  refine ⟨_, pss_one (ps_ret (pe_dictZ (by rfl) (by rfl) md (by rfl) mz (pa_cons (pe_fld (pv 0) rfl) (pa_cons (pv 1) pa_nil)))), ?_⟩
  refine ⟨_, rfl, x, C, dx, fs, _, rfl, hx, T.cl, T.nN, k1, _, rfl, nl, t, ns, _, rfl, SqL.of hn, (.inl ht), by rw [List.length_map]; exact hl, fun p np => ?_⟩
  have q := k p np
  have e : mergeK [] ((ns.zip (is.map V.int)).map strKv) = (ns.zip is).map kvOf := by
    rw [zip_kv]
    exact merge_nd (ns.zip is) [] (by rw [List.nil_append, zip_keys hl]; exact nd)
  rw [e]
  exact q
def spBrkR : Sp := fun vs H Q _ => ∃ (h : Addr) (x : V) (ds rs : List PyData) (d : PyData), vs = [.ref h, x] ∧ Tr H (.ref h) (.tuple [.tuple ds, .tuple rs]) ∧ HouseG ds rs ∧ Tr H x d ∧ numsD ds d = true ∧ ∀ (l : Addr) (H' : Hp), Same H H' → H l = none → H' l = some (.lst (natsV (brkD ds rs d))) → Q (.ref l) H'
abbrev nBrkR : List Str := ["house", "numbers", "now", "k", "rule"]
theorem scBrkR : FnScope nBrkR ["house", "numbers"] (defScope sBrkR) := ⟨rfl, rfl, rfl, by decide +kernel, rfl, by decide +kernel, by decide +kernel⟩
set_option maxHeartbeats 2000000 in
theorem ok_brkR {f g1 g2 g3 C : Addr} {fd d1 d2 d3 : FuncData} (F : Fun K "broken_rules" "broken_rules" sBrkR f fd) (T : LayTxt K mg C) (M : Mk K C g1) (G1 : FnOk P w K mg base CX0 2 g1 d1 ["self", "house"] (spInit C)) (b1 : Binds K d1 ["self", "house"] [])
    (G2 : FnOk P w K mg base CX0 1 g2 d2 ["self", "numbers"] (spByN C)) (b2 : Binds K d2 ["self", "numbers"] []) (m2 : Meth K C "by_names" g2)
    (G3 : FnOk P w K mg base CX0 2 g3 d3 ["rule", "now"] spRuleH) (b3 : Binds K d3 ["rule", "now"] []) (k3 : PySem.W.keepIn K (.ref g3) = true) (m3 : mg "rule_holds" = some (.ref g3)) (B : BltH mg) :
    FnOk P w K mg base CX0 4 f fd ["house", "numbers"] spBrkR := by
  refine F.ok scBrkR (fun vs H Q E h => ?_) (fun cdv A outer s H vs Q E hr h => ?_)
  · obtain ⟨h, x, ds, rs, d, rfl, _⟩ := h
    rfl
  obtain ⟨h, x, ds, rs, d, rfl, th, hg, td, hnm, k⟩ := h
  have hr1 : Room 1 _ := hr.mono (by decide)
  have hr2 : Room 2 _ := hr.mono (by decide)
  refine ⟨_, pss_cons (ps_set (i := 2) scBrkR.nd rfl (.inr rfl) (pe_meth (pe_make M G1 hr rfl T.mgC b1 .nil pass0 (pa_cons (pv 0) pa_nil)) T.cl m2 G2 hr1 b2 .nil pass0 (pa_cons (pv 1) pa_nil))) <|
    pss_one (ps_ret (pe_lc (own := [("k", 3), ("rule", 4)]) (g := gTup K 2 (gCons (gName 3) (gCons (gName 4) gNil))) (by rfl) scBrkR.nd (pi_enumT (by rfl) B.enumerate (pa_cons (pe_ix ix_tup (pv 0) pe_int (fun _ _ => rfl)) pa_nil)) (blkOk_by (N := nBrkR) (sc := defScope sBrkR) (by decide +kernel)) (fun _ _ _ _ _ => pg_tup rfl (pgs_cons (pg_name (i := 3) scBrkR.nd rfl (Or.inl rfl)) (pgs_cons (pg_name (i := 4) scBrkR.nd rfl (Or.inl rfl)) pgs_nil))) (fun _ _ _ _ _ => pts_one (pt_not (pt_val (pe_call G3 hr2 rfl m3 k3 b3 .nil pass0 (pa_cons (pv 4) (pa_cons (pv 2) pa_nil)))))) (fun _ _ _ _ _ => pv 3))), ?_⟩
  obtain ⟨es, rfl, le, en⟩ : ∃ es, d = .tuple es ∧ es.length = ds.length ∧ ((ds.zip es).all fun p => numD p.1 p.2) = true := by
    cases d with
    | tuple es =>
      have hnm' : (decide (es.length = ds.length) && ((ds.zip es).all fun p => numD p.1 p.2)) = true := hnm
      rw [Bool.and_eq_true, decide_eq_true_eq] at hnm'
      exact ⟨es, rfl, hnm'.1, hnm'.2⟩
    | _ => cases hnm
  have ei := nums_ints le en
  have eI : intsOf (.tuple es) = es.map intOf := rfl
  generalize his : es.map intOf = is at ei eI
  subst ei
  rw [List.length_map] at le
  cases td with
  | @tup t zs _ ht alZ =>
  have ez := trInts alZ
  subst ez
  have th0 := th
  cases th with
  | @tup _ hs _ hh al =>
  revert hh
  match hs, al with
  | [_, _], .cons tA (.cons (@Tr.tup _ b ys _ hB alB) .nil) =>
  intro hh
  have lB := alB.length
  have r2 := hg.r2
  refine ⟨_, rfl, fun x dx nx ndx ne => ?_⟩
  have s0 : Same H (upd (upd H dx (.own x)) x (.ins C dx [])) := fun c o e => by
    rw [upd_ne (ne_of_none e nx), upd_ne (ne_of_none e ndx)]
    exact e
  refine ⟨x, h, dx, ds, rs, rfl, upd_same, th0.same s0, hg, fun nl _ _ _ H1 L kp => ⟨rfl, ?_⟩⟩
  have L := L.at
  have s1 : Same H H1 := fun c o e => kp c o (ne_of_none e nx) (s0 c o e)
  obtain ⟨⟨dx2, fs, hx1, q1, q2⟩, q3⟩ := id L
  refine ⟨x, dx2, fs, rfl, hx1, q2, _, rfl, x, t, nl, ds.map nameOf, is, rfl, L, (ht.map (s1 _)), by rw [List.length_map]; exact le.symm, hg.nd, fun p np => ?_⟩
  have s2 := s1.trans (sameNew np (.dK (((ds.map nameOf).zip is).map kvOf)))
  have hp : upd H1 p (.dK (((ds.map nameOf).zip is).map kvOf)) p = some (.dK (((ds.map nameOf).zip is).map kvOf)) := upd_same
  have ek : ((ds.map nameOf).zip is).map (·.1) = ds.map nameOf := zip_keys (by rw [List.length_map]; exact le.symm)
  have eb : brkD ds rs (.tuple (is.map PyData.int)) = brk (lookE ((ds.map nameOf).zip is)) 0 rs := by
    unfold brkD atE
    rw [eI]
  rw [eb] at k
  generalize (ds.map nameOf).zip is = em at ek hp s2 k
  generalize upd H1 p (.dK (em.map kvOf)) = H2 at s2 hp
  refine ⟨_, rfl, h, _, _, _, rfl, rfl, (.inl (hh.map (s2 _))), (rfl : atI [_, V.ref b] 1 = some (.ref b)), b, ys, rfl, (.inl (hB.map (s2 _))), fun D hD => lc_it walk_enumT (fun i H3 => H3 D = some (.lst (natsV (brk (lookE em) 0 (rs.take i)))) ∧ Same H2 H3) ⟨upd_same, sameNew hD _⟩ (fun i H3 _ ⟨_, s3⟩ => (.inl ((hB.map (s2 _)).map (s3 _)))) ?_ ?_⟩
  · rintro i y H3 _ hi ⟨e3, s3⟩ ⟨T', x1, x2, rfl, nT, rfl, w1, w2⟩
    cases w1
    have w2 : ys[i]? = some x2 := w2
    obtain ⟨r, hr', tr⟩ := alB.get w2
    have sT := sameNew nT (.tup [.int (i : Nat), x2])
    have s4 := s3.trans sT
    have rl := (hg.rules r (List.mem_of_getElem? hr')).rule
    refine ⟨T', _, rfl, SqT.of upd_same, rfl, _, _, rfl, _, _, rfl, rfl, rfl, ?_⟩
    refine ⟨_, rfl, _, rfl, x2, p, em, r, rfl, (tr.same s2).same s4, by rw [ek]; exact rl, s4 _ _ hp, _, rfl, ?_⟩
    have et := brk_snoc (lookE em) r (rs.take i) 0
    rw [← take_more hr'] at et
    have il : (rs.take i).length = i := by
      rw [List.length_take]
      have := (List.getElem?_eq_some_iff.mp hr').1
      omega
    rw [il, Nat.zero_add] at et
    have e4 := sT _ _ e3
    cases c : ruleH (lookE em) r with
    | true =>
      rw [if_pos c, List.append_nil] at et
      exact iteF ⟨by rw [et]; exact e4, s4⟩
    | false =>
      rw [if_neg (by rw [c]; exact Bool.false_ne_true)] at et
      refine iteT ⟨_, rfl, _, e4, small1000 ?_, ?_, fun c o e => ?_⟩
      · have := brk_len (lookE em) (rs.take i) 0
        rw [il] at this
        unfold natsV
        rw [List.length_map]
        have hi' : i < ys.length := hi
        omega
      · rw [upd_same, et]
        unfold natsV
        rw [List.map_append]
        rfl
      · rw [upd_ne (ne_of_none e hD)]
        exact s4 _ _ e
  · rintro H3 ⟨e3, s3⟩
    rw [List.take_of_length_le (by omega)] at e3
    exact k D H3 (s2.trans s3) (s2.free hD) e3
end
end Pk
/-! stands, check_house, check_numbers, is_standing, broken. -/
namespace Pk
open PySem L2
def standD (ds rs : List PyData) (d : PyData) : Bool := numsD ds d && (brkD ds rs d).isEmpty
/-- a house at h -/
structure HouseAt (H : Hp) (h : Addr) (ds rs : List PyData) : Prop where
  tr : Tr H (.ref h) (.tuple [.tuple ds, .tuple rs])
  hg : HouseG ds rs
theorem HouseAt.grs {Ps : List Addr} {H H' : Hp} {h : Addr} {ds rs : List PyData} (a : HouseAt H h ds rs) (t : Tabs Ps H) (g : GrS Ps H H') : HouseAt H' h ds rs := ⟨a.tr.grs t g, a.hg⟩
theorem house_lv {ds rs : List PyData} (hg : HouseG ds rs) : lv 0 (.tuple [.tuple ds, .tuple rs]) = true ∧ (PyData.tuple [.tuple ds, .tuple rs]).bulk ≤ 6000 ∧ (PyData.tuple [.tuple ds, .tuple rs]).depth ≤ 4 := by
  have a1 : lvs 0 ds = true := lvs_all fun d hd => (dial_lv (hg.dials d hd)).1
  have b1 : lvs 0 rs = true := lvs_all fun d hd => (hg.rules d hd).lv
  have a3 : PyData.depthAll ds ≤ 1 := depth_all fun d hd => (dial_lv (hg.dials d hd)).2.2
  have b3 : PyData.depthAll rs ≤ 2 := depth_all fun d hd => (hg.rules d hd).depth
  refine ⟨by rw [lv, lvs, lvs, lvs, lv, lv, a1, b1]; rfl, ?_, ?_⟩
  · have q1 := bulk_all (n := 80) fun d hd => (dial_lv (hg.dials d hd)).2.1
    have q2 := bulk_all (n := 120) fun r hr => (hg.rules r hr).bulk
    have l1 : (80 + 1) * ds.length ≤ 81 * 12 := Nat.mul_le_mul_left _ hg.d2
    have l2 : (120 + 1) * rs.length ≤ 121 * 40 := Nat.mul_le_mul_left _ hg.r2
    simp only [PyData.bulk, PyData.bulkAll]
    omega
  · simp only [PyData.depth, PyData.depthAll]
    omega
theorem house_okS {ds rs : List PyData} (hg : HouseG ds rs) : okS (.tuple [.tuple ds, .tuple rs]) = true := by
  obtain ⟨h1, h2, _⟩ := house_lv hg
  exact (lv_ok (by omega) h1 (by omega)).1
def spStands (Ps : List Addr) : Sp := fun vs H Q _ => ∃ (h : Addr) (x : V) (ds rs : List PyData) (d : PyData), vs = [.ref h, x] ∧ HouseAt H h ds rs ∧ Tr H x d ∧ Tabs Ps H ∧ ∀ H', GrS Ps H H' → Q (.bl (standD ds rs d)) H'
def spCheckH (Ps : List Addr) : Sp := fun vs H Q _ => ∃ (h : Addr) (ds rs : List PyData), vs = [.ref h] ∧ HouseAt H h ds rs ∧ Tabs Ps H ∧ ∀ H', GrS Ps H H' → Q .non H'
def spCheckN (Ps : List Addr) (CN : Addr) : Sp := fun vs H Q E => ∃ (h : Addr) (x : V) (ds rs : List PyData) (d : PyData), vs = [.ref h, x] ∧ HouseAt H h ds rs ∧ Tr H x d ∧ Tabs Ps H ∧ ∀ H', GrS Ps H H' → (numsD ds d = true → Q .non H') ∧ (numsD ds d = false → E (.ref CN) none H')
def spBroken (Ps : List Addr) (CN : Addr) : Sp := fun vs H Q E => ∃ (h : Addr) (x : V) (ds rs : List PyData) (d : PyData), vs = [.ref h, x] ∧ HouseAt H h ds rs ∧ Tr H x d ∧ Tabs Ps H ∧ (numsD ds d = true → ∀ (l : Addr) (H' : Hp), GrS Ps H H' → H l = none → H' l = some (.lst (natsV (brkD ds rs d))) → Q (.ref l) H') ∧ (numsD ds d = false → ∀ H', GrS Ps H H' → E (.ref CN) none H')
section
variable {P : Program} {w : World} {K : PySem.W.Frag} {mg : Str → Option Value} {base : Heap} {Ps : List Addr} {P1 P2 : Addr}
theorem scStands : FnScope ["house", "thing"] ["house", "thing"] (defScope sStands) := ⟨rfl, rfl, rfl, by decide +kernel, rfl, by decide +kernel, by decide +kernel⟩
theorem ok_stands {f g1 g2 : Addr} {fd d1 d2 : FuncData} (h2 : P2 ∈ Ps) (F : Fun K "stands" "stands" sStands f fd) (G1 : FnOk P w K mg base CX0 3 g1 d1 ["house", "thing"] (spAreN P2)) (b1 : Binds K d1 ["house", "thing"] []) (k1 : PySem.W.keepIn K (.ref g1) = true) (m1 : mg "are_numbers" = some (.ref g1))
    (G2 : FnOk P w K mg base CX0 4 g2 d2 ["house", "numbers"] spBrkR) (b2 : Binds K d2 ["house", "numbers"] []) (k2 : PySem.W.keepIn K (.ref g2) = true) (m2 : mg "broken_rules" = some (.ref g2)) :
    FnOk P w K mg base CX0 5 f fd ["house", "thing"] (spStands Ps) := by
  refine F.ok scStands (fun vs H Q E h => ?_) (fun cdv A outer s H vs Q E hr h => ?_)
  · obtain ⟨h, x, ds, rs, d, rfl, _⟩ := h
    rfl
  obtain ⟨h, x, ds, rs, d, rfl, ha, td, tb, k⟩ := h
  have hr3 : Room 3 _ := hr.mono (by decide)
  refine ⟨_, pss_one (ps_ret (pe_and (pe_call G1 hr3 rfl m1 k1 b1 .nil pass0 (pa_cons (pv 0) (pa_cons (pv 1) pa_nil))) (pe_one (pe_notT (pe_call G2 hr rfl m2 k2 b2 .nil pass0 (pa_cons (pv 0) (pa_cons (pv 1) pa_nil))))))), ?_⟩
  refine ⟨_, rfl, _, rfl, h, x, ds, rs, d, rfl, ha.tr, ha.hg.d2, ha.hg.dials, td, tb _ h2, fun H1 g1 => ⟨_, rfl, ?_⟩⟩
  have gs := GrS.of h2 tb g1
  cases c : numsD ds d with
  | false =>
    have q := k H1 gs
    unfold standD at q
    rw [c] at q
    exact iteF q
  | true =>
    refine iteT ⟨_, rfl, _, rfl, h, x, ds, rs, d, rfl, ha.tr.grs tb gs, ha.hg, td.grs tb gs, c, fun l H2 s2 nl hl => ?_⟩
    refine ⟨!(brkD ds rs d).isEmpty, .inl ⟨_, SqL.of hl, by unfold natsV; cases brkD ds rs d <;> rfl⟩, ?_⟩
    have q := k H2 (gs.trans (GrS.same gs.1 s2))
    unfold standD at q
    rw [c, Bool.true_and] at q
    rw [Bool.not_not]
    exact q
theorem scCheckH : FnScope ["house", "fault"] ["house"] (defScope sCheckH) := ⟨rfl, rfl, rfl, by decide +kernel, rfl, by decide +kernel, by decide +kernel⟩
theorem ok_checkH {f g : Addr} {fd gd : FuncData} (h1 : P1 ∈ Ps) (F : Fun K "check_house" "check_house" sCheckH f fd) (G : FnOk P w K mg base CX0 5 g gd ["thing"] (spFault P1)) (bG : Binds K gd ["thing"] []) (kG : PySem.W.keepIn K (.ref g) = true) (mG : mg "fault_of" = some (.ref g)) :
    FnOk P w K mg base CX0 6 f fd ["house"] (spCheckH Ps) := by
  refine F.ok scCheckH (fun vs H Q E h => ?_) (fun cdv A outer s H vs Q E hr h => ?_)
  · obtain ⟨h, ds, rs, rfl, _⟩ := h
    rfl
  obtain ⟨h, ds, rs, rfl, ha, tb, k⟩ := h
  refine ⟨_, pss_cons (ps_set (i := 1) scCheckH.nd rfl (.inl rfl) (pe_call G hr rfl mG kG bG .nil pass0 (pa_cons (pv 0) pa_nil))) <|
    pss_one (ps_if (pt_cmpR op_notN (pv 1) pe_non (nomark _)) (pss_one ps_never) pss_nil), ?_⟩
  refine ⟨_, rfl, _, _, rfl, ha.tr, tb _ h1, house_okS ha.hg, fun v H1 g1 tv => ?_⟩
  rw [ha.hg.fault] at tv
  cases tv
  exact ⟨_, rfl, rfl, _, rfl, iteF (k H1 (GrS.of h1 tb g1))⟩
/-- what the walk asks of the class of a refusal -/
structure RefTxt (K : PySem.W.Frag) (mg : Str → Option Value) (x : Str) (C : Addr) : Prop where
  q : PySem.W.excIn K C [.type "ValueError", .type "Exception", .type "BaseException", .type "object"] "ValueError.__new__" = true
  gC : mg x = some (.ref C)
  kC : PySem.W.keepIn K (.ref C) = true
  sB : PySem.W.subIn K (.ref C) (.type "BaseException") = some true
  tC : PySem.W.typeIn K (.ref C) = some (.type "type")
end
end Pk
/-! The law's own: named, are_numbers, numbers, off. -/
namespace Pk
open PySem L2
abbrev sLNamed : Stmt := topH 72
abbrev sLTold : Stmt := topH 79
theorem walk_zipT {K : PySem.W.Frag} {a b : Addr} {xs ys : List V} {n : Nat} (hn : n = min xs.length ys.length) : Walk (RZ.ItzT K a b) n (fun H => SqT K H a xs ∧ SqT K H b ys) (YPair (fun i => xs[i]?) (fun i => ys[i]?)) where
  goes := fun i H hi h => ⟨xs, ys, xs[i]'(by omega), ys[i]'(by omega), h.1, h.2, List.getElem?_eq_getElem (by omega), List.getElem?_eq_getElem (by omega)⟩
  stops := fun H h => ⟨xs, ys, h.1, h.2, by omega⟩
  yields := fun i H x H' hi h ⟨T, u, v, e1, e2, e3, e4, e5⟩ => ⟨T, u, v, e1, e2, e3, e4 xs h.1, e5 ys h.2⟩
def spLNamed : Sp := fun vs H Q _ => ∃ (h : Addr) (x : V) (ds rs : List PyData) (d : PyData), vs = [.ref h, x] ∧ HouseAt H h ds rs ∧ Tr H x d ∧ numsD ds d = true ∧ ∀ (p : Addr) (H' : Hp), Same H H' → H p = none → H' p = some (.dK ((atE ds d).map kvOf)) → Q (.ref p) H'
def spLAre : Sp := fun vs H Q _ => ∃ (h : Addr) (x : V) (ds rs : List PyData) (d : PyData), vs = [.ref h, x] ∧ HouseAt H h ds rs ∧ Tr H x d ∧ ∀ H', Same H H' → Q (.bl (numsD ds d)) H'
theorem nums_is {ds : List PyData} {d : PyData} (h : numsD ds d = true) : ∃ is : List Int, d = .tuple (is.map PyData.int) ∧ is.length = ds.length ∧ intsOf d = is := by
  cases d with
  | tuple es =>
    have h' : (decide (es.length = ds.length) && ((ds.zip es).all fun p => numD p.1 p.2)) = true := h
    rw [Bool.and_eq_true, decide_eq_true_eq] at h'
    have e := nums_ints h'.1 h'.2
    exact ⟨es.map intOf, by rw [← e], by rw [List.length_map]; exact h'.1, rfl⟩
  | _ => cases h
theorem dial_ix {H : Hp} {x : V} {nm way : Str} {lo hi up dn : Int} (t : Tr H x (.tuple [.str nm, .int lo, .int hi, .str way, .int up, .int dn])) : ∃ (b : Addr) (qs : List V), x = .ref b ∧ Rd H b (.tup qs) ∧ atI qs 1 = some (.int lo) ∧ atI qs 2 = some (.int hi) := by
  cases t with
  | @tup b xs _ hb al =>
    revert hb
    match xs, al with
    | [_, _, _, _, _, _], .cons _ (.cons (.int _) (.cons (.int _) _)) => exact fun hb => ⟨b, _, rfl, hb, rfl, rfl⟩
section
variable {P : Program} {w : World} {K : PySem.W.Frag} {mg : Str → Option Value} {base : Heap}
abbrev nLNamed : List Str := ["_law_house_here", "_law_numbers", "_law_dial_here", "_law_number"]
theorem scLNamed : FnScope nLNamed ["_law_house_here", "_law_numbers"] (defScope sLNamed) := ⟨rfl, rfl, rfl, by decide +kernel, rfl, by decide +kernel, by decide +kernel⟩
theorem ok_lnamed {f : Addr} {fd : FuncData} (F : Fun K "_law_named" "_law_named" sLNamed f fd) (md : mg "dict" = none) (mz : mg "zip" = none) : FnOk P w K mg base CX0 1 f fd ["_law_house_here", "_law_numbers"] spLNamed := by
  refine F.ok scLNamed (fun vs H Q E h => ?_) (fun cdv A outer s H vs Q E hr h => ?_)
  · obtain ⟨h, x, ds, rs, d, rfl, _⟩ := h
    rfl
  obtain ⟨h, x, ds, rs, d, rfl, ha, td, hn, k⟩ := h
  refine ⟨_, pss_one (ps_ret (pe_callTy (call_dictP rfl) (by rfl) md (by decide +kernel) (pa_cons (pe_lc (own := [("_law_dial_here", 2), ("_law_number", 3)]) (g := gTup K 2 (gCons (gName 2) (gCons (gName 3) gNil))) (by rfl) scLNamed.nd (RZ.pi_zipA (by rfl) mz (pa_cons (pe_ix ix_tup (pv 0) pe_int (fun _ _ => rfl)) (pa_cons (pv 1) pa_nil))) (blkOk_by (N := nLNamed) (sc := defScope sLNamed) (by decide +kernel)) (fun _ _ _ _ _ => pg_tup rfl (pgs_cons (pg_name (i := 2) scLNamed.nd rfl (Or.inl rfl)) (pgs_cons (pg_name (i := 3) scLNamed.nd rfl (Or.inl rfl)) pgs_nil))) (fun _ _ _ _ _ => pts_nil) (fun _ _ _ _ _ => pe_tup (pa_cons (pe_ix (r := rIxT K) ix_tup (pv 2) pe_int (fun _ _ => rfl)) (pa_cons (pv 3) pa_nil)))) pa_nil))), ?_⟩
  obtain ⟨is, rfl, li, ei⟩ := nums_is hn
  have eat : atE ds (.tuple (is.map PyData.int)) = (ds.map nameOf).zip is := by unfold atE; rw [ei]
  rw [eat] at k
  obtain ⟨th, hg⟩ := ha
  cases td with
  | @tup t zs _ ht alZ =>
  cases trInts alZ
  cases th with
  | @tup _ hs _ hh al =>
  revert hh
  match hs, al with
  | [_, _], .cons (@Tr.tup _ a xs _ hA alA) (.cons tB .nil) =>
  intro hh
  have lA := alA.length
  have d2 := hg.d2
  refine ⟨_, rfl, h, _, _, _, rfl, rfl, (.inl hh), (rfl : atI [V.ref a, _] 0 = some (.ref a)), _, rfl, a, t, xs, _, rfl, .inr ⟨(.inl hA), (.inl ht), fun D hD => lc_it (walk_zipT (n := ds.length) (by rw [List.length_map]; omega)) (fun i H1 => ∃ (ps : List Addr) (es : List (Str × Int)), H1 D = some (.lst (ps.map V.ref)) ∧ Paired (fun q e => H1 q = some (.tup [.str e.1, .int e.2])) ps es ∧ es = ((ds.map nameOf).zip is).take i ∧ Same H H1)
    ⟨[], [], upd_same, .nil, rfl, sameNew hD _⟩ (fun i H1 _ ⟨_, _, _, _, _, s1⟩ => ⟨(.inl (hA.map (s1 _))), (.inl (ht.map (s1 _)))⟩) ?_ ?_⟩⟩
  · rintro i y H1 _ hi ⟨ps, es, e1, e2, e3, s1⟩ ⟨T, x1, x2, rfl, nT, rfl, w1, w2⟩
    have w1 : xs[i]? = some x1 := w1
    have w2 : (is.map V.int)[i]? = some x2 := w2
    obtain ⟨dd, hd, tr⟩ := alA.get w1
    rw [List.getElem?_map] at w2
    obtain ⟨j, hj, rfl⟩ := Option.map_eq_some_iff.mp w2
    have sT := sameNew nT (.tup [x1, .int j])
    have s2 := s1.trans sT
    obtain ⟨q, qs, rfl, hq, i0⟩ := dial_tup0 (tr.same s2) (hg.dials dd (List.mem_of_getElem? hd))
    have pl := e2.length
    have le : es.length ≤ 12 := by rw [e3, List.length_take, List.length_zip, List.length_map]; omega
    refine ⟨T, _, rfl, SqT.of upd_same, rfl, _, _, rfl, _, _, rfl, rfl, rfl, ?_⟩
    refine ⟨_, rfl, q, _, _, _, rfl, rfl, (.inl hq), i0, _, rfl, by show 2 ≤ sizeLine; decide, fun u nu => ?_⟩
    have su := sameNew nu (.tup [.str (nameOf dd), .int j])
    have uD : u ≠ D := fun z => by rw [z, sT _ _ e1] at nu; cases nu
    refine ⟨_, su _ _ (sT _ _ e1), small1000 (by rw [List.length_map]; omega), ps ++ [u], es ++ [(nameOf dd, j)], by rw [upd_same, List.map_append]; rfl, .snoc (L2.Paired.mapP e2 fun q e hqe => ?_) ?_, ?_, fun c o e => ?_⟩
    · have qD : q ≠ D := ne_of hqe e1 (by intro z; cases z)
      rw [upd_ne qD]
      exact su _ _ (sT _ _ hqe)
    · rw [upd_ne uD, upd_same]
    · have hz : ((ds.map nameOf).zip is)[i]? = some (nameOf dd, j) := by
        rw [List.getElem?_zip_eq_some, List.getElem?_map, hd]
        exact ⟨rfl, hj⟩
      rw [take_more hz, e3]
    · rw [upd_ne (ne_of_none e hD)]
      exact su _ _ (s2 _ _ e)
  · rintro H1 ⟨ps, es, e1, e2, e3, s1⟩
    rw [List.take_of_length_le (by rw [List.length_zip, List.length_map]; omega)] at e3
    subst e3
    refine ⟨D, ps, ((ds.map nameOf).zip is).map kvOf, rfl, SqL.of e1, pairedMap e2 fun q e hqe => SqT.of hqe, fun p np => ?_⟩
    have em := merge_nd ((ds.map nameOf).zip is) [] (by rw [List.nil_append, zip_keys (by rw [List.length_map]; omega)]; exact hg.nd)
    rw [show mergeK [] (((ds.map nameOf).zip is).map kvOf) = ((ds.map nameOf).zip is).map kvOf from em]
    exact k p _ (s1.trans (sameNew np _)) (s1.free np) upd_same
abbrev nLAreN : List Str := ["_law_house_here", "_law_thing", "_law_k"]
theorem zip_at {ds es : List PyData} {i : Nat} {d e : PyData} (h1 : ds[i]? = some d) (h2 : es[i]? = some e) : (ds.zip es)[i]? = some (d, e) := by
  rw [List.getElem?_zip_eq_some]
  exact ⟨h1, h2⟩
end
end Pk
/-! The law's own: numbers, off, told. -/
namespace Pk
open PySem L2
def spLNums : Sp := fun vs H Q _ => ∃ (p c h : Addr) (X : List Addr) (n : Int) (ds rs : List PyData), vs = [.ref p, .ref h] ∧ PenC H p c n ∧ Al p X H ∧ n ≤ 100000000 ∧ Tr (zn X H) (.ref h) (.tuple [.tuple ds, .tuple rs]) ∧ HouseG ds rs ∧
  ∀ (t : Addr) (is : List Int) (H' : Hp), PenC H' p c (n + 100) → Sb p H H' → H' t = some (.tup (is.map V.int)) → t ∉ X → is.length = ds.length → (∀ j ∈ is, -farS ≤ j ∧ j ≤ farS) → Q (.ref t) H'
def spLOff : Sp := fun vs H Q _ => ∃ (p c t : Addr) (x : V) (X : List Addr) (n : Int) (is : List Int), vs = [.ref p, x, .ref t] ∧ PenC H p c n ∧ Al p X H ∧ n ≤ 100000000 ∧ H t = some (.tup (is.map V.int)) ∧ 1 ≤ is.length ∧ is.length ≤ 40 ∧ (∀ j ∈ is, -farS ≤ j ∧ j ≤ farS) ∧
  ∀ (t' : Addr) (is' : List Int) (H' : Hp), PenC H' p c (n + 10) → Sb p H H' → H' t' = some (.tup (is'.map V.int)) → t' ∉ X → is'.length = is.length → (∀ j ∈ is', -(5 * farS) ≤ j ∧ j ≤ 5 * farS) → Q (.ref t') H'
section
variable {P : Program} {w : World} {K : PySem.W.Frag} {mg : Str → Option Value} {base : Heap}
abbrev nLNums : List Str := ["_law_pen_here", "_law_house_here", "_law_dial_here"]
abbrev nLOff : List Str := ["_law_pen_here", "_law_house_here", "_law_numbers", "_law_rows", "_law_k", "_law_at"]
end
end Pk
/-! The law's own: the pen, and what the law says of its things. -/
namespace Pk
open PySem L2
/-- _law_pen: a new pen -/
def spPenL (K : PySem.W.Frag) : Sp := fun vs H Q _ => ∃ (a : Addr) (ns : List Int), vs = [.ref a] ∧ SqL K H a (ns.map V.int) ∧ ns.length ≤ 63 ∧
  ∀ (p c : Addr) (H' : Hp), PenC H' p c 0 → Same H H' → Q (.ref p) H'
theorem tab_sb {H H' : Hp} {Pt p c : Addr} {n : Int} (t : GxR.TabG H Pt) (P : PenC H p c n) (s : Sb p H H') : GxR.TabG H' Pt := by
  obtain ⟨ps, h1, h2⟩ := t
  obtain ⟨kv, e⟩ := P.atp
  exact ⟨ps, s.to (ne_of h1 e (by intro z; cases z)) h1, h2⟩
theorem PenC.al {H : Hp} {p c : Addr} {n : Int} (P : PenC H p c n) : Al p [p] H := ⟨List.mem_cons_self, fun b hb => by
  rw [List.mem_singleton.mp hb]
  obtain ⟨kv, e⟩ := P.atp
  exact ⟨_, e⟩⟩

theorem Tabs.same {Ps : List Addr} {H H' : Hp} (t : Tabs Ps H) (s : Same H H') : Tabs Ps H' := fun P hP => let ⟨ps, h1, h2⟩ := t P hP; ⟨ps, s _ _ h1, h2⟩
theorem Tabs.sb {Ps : List Addr} {H H' : Hp} {p c : Addr} {n : Int} (t : Tabs Ps H) (P : PenC H p c n) (s : Sb p H H') : Tabs Ps H' := fun Q hQ => tab_sb (t Q hQ) P s
theorem PenC.grs {Ps : List Addr} {H H' : Hp} {p c : Addr} {n : Int} (P : PenC H p c n) (t : Tabs Ps H) (g : GrS Ps H H') : PenC H' p c n := by
  obtain ⟨ns, u, r, h, e⟩ := P
  exact ⟨ns, u, r, ⟨g.at t h.at_ (by intro q z; cases z), g.at t h.cells (by intro q z; cases z), h.len, h.t0, h.r0⟩, e⟩
/-- a list or a tuple of numbers -/
theorem trIntsAll {H : Hp} : ∀ is : List Int, TrAll H (is.map V.int) (is.map PyData.int)
  | [] => .nil
  | i :: is => .cons (.int i) (trIntsAll is)
theorem bulkInts : ∀ is : List Int, PyData.bulkAll (is.map PyData.int) = is.length
  | [] => by simp [PyData.bulkAll]
  | i :: is => by
    simp only [List.map_cons, PyData.bulkAll, PyData.bulk, List.length_cons, bulkInts is]
    omega
theorem lvInts : ∀ {is : List Int}, (∀ j ∈ is, -(5 * farS) ≤ j ∧ j ≤ 5 * farS) → lvs 0 (is.map PyData.int) = true
  | [], _ => rfl
  | i :: is, h => by
    have h0 := h i List.mem_cons_self
    have f : farS = 1000000000000000000 := rfl
    have g := greatG
    rw [List.map_cons, lvs, int_lv (i := i) (by omega) (by omega), lvInts fun j hj => h j (List.mem_cons_of_mem _ hj)]
    rfl
/-- a thing that the law may hand in -/
structure ThingN (d : PyData) : Prop where
  lv : lv 5 d = true
  bulk : d.bulk ≤ 30000
  depth : d.depth ≤ 50
theorem lv_tup {k : Nat} {ds : List PyData} : lv k (.tuple ds) = lvs k ds := by rw [lv]
theorem lv_lst {k : Nat} {ds : List PyData} : lv k (.list ds) = lvs k ds := by rw [lv]
theorem ints_tup {is : List Int} (hl : is.length ≤ 100) (h : ∀ j ∈ is, -(5 * farS) ≤ j ∧ j ≤ 5 * farS) : Pk.lv 0 (.tuple (is.map PyData.int)) = true ∧ (PyData.tuple (is.map PyData.int)).bulk ≤ 100 ∧ (PyData.tuple (is.map PyData.int)).depth ≤ 1 := by
  refine ⟨by rw [lv_tup]; exact lvInts h, ?_, ?_⟩
  · simp only [PyData.bulk, bulkInts]
    omega
  · simp only [PyData.depth, depthInts]
    omega
theorem ThingN.tup {is : List Int} (hl : is.length ≤ 100) (h : ∀ j ∈ is, -(5 * farS) ≤ j ∧ j ≤ 5 * farS) : ThingN (.tuple (is.map PyData.int)) := by
  obtain ⟨h1, h2, h3⟩ := ints_tup hl h
  exact ⟨lv_le (by omega) h1, by omega, by omega⟩
theorem lv_les {is : List Int} (h : ∀ j ∈ is, -(5 * farS) ≤ j ∧ j ≤ 5 * farS) : lvs 5 (is.map PyData.int) = true := by
  have z := lv_le (j := 0) (k := 5) (by omega) (d := .tuple (is.map PyData.int)) (by rw [lv_tup]; exact lvInts h)
  rw [lv_tup] at z
  exact z
theorem ThingN.lst {is : List Int} (hl : is.length ≤ 100) (h : ∀ j ∈ is, -(5 * farS) ≤ j ∧ j ≤ 5 * farS) : ThingN (.list (is.map PyData.int)) := by
  refine ⟨by rw [lv_lst]; exact lv_les h, ?_, ?_⟩
  · simp only [PyData.bulk, bulkInts]
    omega
  · simp only [PyData.depth, depthInts]
    omega
/-- what is due of a thing -/
def dueT (ds rs : List PyData) (d : PyData) : PyData := if numsD ds d = true then .list ((brkD ds rs d).map fun (n : Nat) => PyData.int (n : Int)) else .tuple [.str "numbers", .bool true, .bool false]
theorem trNats {H : Hp} : ∀ ns : List Nat, TrAll H (natsV ns) (ns.map fun (n : Nat) => PyData.int (n : Int))
  | [] => .nil
  | n :: ns => .cons (.int _) (trNats ns)
theorem natsInts (ns : List Nat) : (ns.map fun (n : Nat) => PyData.int (n : Int)) = (ns.map fun (n : Nat) => (n : Int)).map PyData.int := by rw [List.map_map]; rfl
theorem brk_lt (f : Str → Int) : ∀ (rs : List PyData) (k : Nat), ∀ n ∈ brk f k rs, n < k + rs.length
  | [], _, n, h => by cases h
  | r :: rs, k, n, h => by
    have e : brk f k (r :: rs) = if ruleH f r = true then brk f (k + 1) rs else k :: brk f (k + 1) rs := rfl
    rw [e] at h
    rw [List.length_cons]
    by_cases c : ruleH f r = true
    · rw [if_pos c] at h
      have := brk_lt f rs (k + 1) n h
      omega
    · rw [if_neg c] at h
      rcases List.mem_cons.mp h with rfl | h
      · omega
      · have := brk_lt f rs (k + 1) n h
        omega
/-- what the law shows of what is due -/
theorem due_ok {ds rs : List PyData} {d : PyData} (hr : rs.length ≤ 40) : (dueT ds rs d).showable = true ∧ (dueT ds rs d).depth ≤ 60 ∧ (dueT ds rs d).shown.length ≤ sizeLine := by
  have T : ThingN (dueT ds rs d) := by
    unfold dueT
    by_cases c : numsD ds d = true
    · rw [if_pos c, natsInts]
      have l := brk_len (lookE (atE ds d)) rs 0
      refine ThingN.lst (by rw [List.length_map]; show (brk (lookE (atE ds d)) 0 rs).length ≤ 100; omega) fun j hj => ?_
      obtain ⟨n, hn, rfl⟩ := List.mem_map.mp hj
      have := brk_lt (lookE (atE ds d)) rs 0 n hn
      have f : farS = 1000000000000000000 := rfl
      omega
    · rw [if_neg c]
      exact ⟨by decide +kernel, by decide +kernel, by decide +kernel⟩
  obtain ⟨k1, k2, k3⟩ := lv_ok (k := 5) (by omega) T.lv (by have := T.bulk; omega)
  exact ⟨k2, by have := T.depth; omega, lv_shown (k := 5) (by omega) T.lv (by have := T.bulk; omega)⟩
/-- the house and the thing, shown -/
theorem pair_ok {ds rs : List PyData} {d : PyData} (hg : HouseG ds rs) (T : ThingN d) : (PyData.tuple [.tuple [.tuple ds, .tuple rs], d]).showable = true ∧ (PyData.tuple [.tuple [.tuple ds, .tuple rs], d]).depth ≤ 60 ∧ (PyData.tuple [.tuple [.tuple ds, .tuple rs], d]).shown.length ≤ sizeLine := by
  obtain ⟨h1, h2, h3⟩ := house_lv hg
  generalize PyData.tuple [.tuple ds, .tuple rs] = dH at h1 h2 h3
  have l : Pk.lv 5 (.tuple [dH, d]) = true := by
    rw [lv_tup, lvs, lvs, lvs, lv_le (by omega) h1, T.lv]
    rfl
  have b : (PyData.tuple [dH, d]).bulk ≤ 100000 := by
    have := T.bulk
    simp only [PyData.bulk, PyData.bulkAll]
    omega
  obtain ⟨k1, k2, k3⟩ := lv_ok (k := 5) (by omega) l b
  refine ⟨k2, ?_, lv_shown (k := 5) (by omega) l b⟩
  have := T.depth
  simp only [PyData.depth, PyData.depthAll]
  omega
theorem eqv_nil (ns : List Nat) : PyData.eqv (.list (ns.map fun (n : Nat) => PyData.int (n : Int))) (.list []) = ns.isEmpty := by
  cases ns with
  | nil => rfl
  | cons n ns => rfl
theorem isL_due {ds rs : List PyData} {d : PyData} : isLst (dueT ds rs d) = numsD ds d := by
  unfold dueT
  cases numsD ds d <;> rfl
theorem noInts : ∀ is : List Int, PyData.hasDictAll (is.map PyData.int) = false
  | [] => by simp [PyData.hasDictAll]
  | i :: is => by simp [PyData.hasDictAll, PyData.hasDict, noInts is]
theorem pssW {X : Cx} {b : List Stmt} {t u : TS} (h : PSs X b t) (i : ∀ D σ H, u D σ H → t D σ H) : PSs X b u := ⟨fun pins s σ H D I q => h.run pins s σ H D I (i D σ H q)⟩
section
variable {P : Program} {w : World} {K : PySem.W.Frag} {mg : Str → Option Value} {base : Heap}
theorem cutInts (ns : List Int) (lo hi : Option Int) : ∃ ms : List Int, cutV (ns.map V.int) lo hi = ms.map V.int ∧ ms.length ≤ ns.length := by
  have e : cutV (ns.map V.int) lo hi = ((ns.drop (HT.sIx (ns.map V.int).length 0 lo)).take (HT.sIx (ns.map V.int).length (ns.map V.int).length hi - HT.sIx (ns.map V.int).length 0 lo)).map V.int := by
    unfold cutV
    simp only [List.map_take, List.map_drop]
  refine ⟨_, e, ?_⟩
  simp only [List.length_take, List.length_drop]
  omega
theorem scPen : FnScope ["_law_script"] ["_law_script"] (defScope sPen) := ⟨rfl, rfl, rfl, by decide +kernel, rfl, by decide +kernel, by decide +kernel⟩
theorem ok_pen {f : Addr} {fd : FuncData} (F : Fun K "_law_pen" "_law_pen" sPen f fd) (B : Blt mg) : FnOk P w K mg base CX0 1 f fd ["_law_script"] (spPenL K) := by
  refine F.ok scPen (fun vs H Q E h => ?_) (fun cdv A outer s H vs Q E hr h => ?_)
  · obtain ⟨a, ns, rfl, _⟩ := h
    rfl
  obtain ⟨a, ns, rfl, hS, hl, k⟩ := h
  refine ⟨_, pss_one (ps_ret (pe_disp (pps_cons pe_str (pe_callTy call_list_of (by rfl) B.list (by decide +kernel) (pa_cons (pe_slice sl_list (pv 0) po_none (po_some pe_int)) pa_nil)) (pps_cons pe_str pe_int (pps_cons pe_str pe_int pps_nil))) (by rfl) (by rfl) (fun z => by cases z) (by show 3 ≤ 15; decide))), ?_⟩
  intro p hp
  have s1 : Same H (upd H p (.dK [])) := sameNew hp _
  obtain ⟨ms, em, hm⟩ := cutInts ns none (some 63)
  refine ⟨_, rfl, 63, rfl, a, _, rfl, s1.seq hS, fun q hq => ?_⟩
  have s2 := sameNew hq (.lst (cutV (ns.map V.int) none (some 63)))
  refine ⟨q, _, rfl, .inl (SqL.of upd_same), fun c hc => ?_⟩
  have s3 := sameNew hc (.lst (cutV (ns.map V.int) none (some 63)))
  have e0 := s3 _ _ (s2 _ _ (upd_same (H := H) (a := p) (o := HO.dK [])))
  have cp : c ≠ p := fun z => by
    rw [z, s2 _ _ (upd_same (H := H) (a := p) (o := HO.dK []))] at hc
    cases hc
  refine ⟨e0, [(Sum.inr "cells", .ref c), (Sum.inr "turn", .int 0), (Sum.inr "rest", .int 0)], rfl, (by show 3 ≤ 15; decide), ?_⟩
  refine k p c _ ⟨ms, 0, 0, ⟨?_, ?_, by omega, by omega, by omega⟩, by omega⟩ fun b o e => ?_
  · rw [upd_same]
    rfl
  · rw [upd_ne cp, upd_same, em]
  · rw [upd_ne (ne_of_none e hp)]
    exact s3 _ _ (s2 _ _ (s1 _ _ e))
end
end Pk
section
set_option maxHeartbeats 1000000
/-! denies, gives. -/
namespace Pk
open PySem L2
def spDenies (C : Addr) : Sp := fun vs H Q _ => ∃ (lx nl dl rb sp a b : Addr) (ds rs : List PyData) (s o : Say), vs = [.ref lx, .ref a, .ref b] ∧ LS C H lx nl dl rb sp ds rs ∧ Rd H a (.tup (sayV s)) ∧ Rd H b (.tup (sayV o)) ∧ SayH (ds.map nameOf) s ∧ ∀ H', Same H H' → Q (.bl (denyS (endsOf ds) s o)) H'
def cutJ (e : Int × Int) (s o : Say) : Nat → Int × Int
  | 0 => e
  | 1 => cutE e s
  | _ => cutE (cutE e s) o
def spGives : Sp := fun vs H Q _ => ∃ (a b : Addr) (s o : Say), vs = [.ref a, .ref b] ∧ Rd H a (.tup (sayV s)) ∧ Rd H b (.tup (sayV o)) ∧ PyData.strOk s.1 = true ∧ PyData.strOk s.2.1 = true ∧ PyData.strOk o.1 = true ∧ PyData.strOk o.2.1 = true ∧ ∀ H', Same H H' → Q (.bl (giveS s o)) H'
section
variable {P : Program} {w : World} {K : PySem.W.Frag} {mg : Str → Option Value} {base : Heap}
abbrev nDenies : List Str := ["layout", "saying", "other", "dial", "least", "greatest", "name", "sort", "i"]
theorem scDenies : FnScope nDenies ["layout", "saying", "other"] (defScope sDenies) := ⟨rfl, rfl, rfl, by decide +kernel, rfl, by decide +kernel, by decide +kernel⟩
theorem ok_denies {f g C : Addr} {fd gd : FuncData} (F : Fun K "denies" "denies" sDenies f fd) (B : Blt mg) (T : LayTxt K mg C)
    (G : FnOk P w K mg base CX0 1 g gd ["layout", "saying"] (spFits C)) (bG : Binds K gd ["layout", "saying"] []) (kG : PySem.W.keepIn K (.ref g) = true) (mG : mg "fits_none" = some (.ref g)) :
    FnOk P w K mg base CX0 2 f fd ["layout", "saying", "other"] (spDenies C) := by
  refine F.ok scDenies (fun vs H Q E h => ?_) (fun cdv A outer s H vs Q E hr h => ?_)
  · obtain ⟨lx, nl, dl, rb, sp, a, b, ds, rs, s, o, rfl, _⟩ := h
    rfl
  obtain ⟨lx, nl, dl, rb, sp, a, b, ds, rs, y, o, rfl, ls, ha, hb, hy, k⟩ := h
  have hu := hu_of hr
  refine ⟨_, pss_cons (ps_if (pt_val (pe_call G hr rfl mG kG bG .nil pass0 (pa_cons (pv 0) (pa_cons (pv 1) pa_nil)))) (pss_one (ps_ret pe_bl)) pss_nil) <|
    pss_cons (ps_if (pt_cmpR op_ne (pe_ix ix_tup (pv 1) pe_int (fun _ _ => rfl)) (pe_ix ix_tup (pv 2) pe_int (fun _ _ => rfl)) (nomark _)) (pss_one (ps_ret pe_bl)) pss_nil) <|
    pss_cons (ps_set (i := 3) scDenies.nd rfl (.inl rfl) (pe_dget hu (pe_fld (pv 0) rfl) (pe_ix ix_tup (pv 1) pe_int (fun _ _ => rfl)) (fun _ _ => rfl))) <|
    pss_cons (ps_par (i := 4) (j := 5) (by rfl) scDenies.nd rfl rfl (by decide) rfl rfl (pa_cons (pe_ix ix_tup (pv 3) pe_int (fun _ _ => rfl)) (pa_cons (pe_ix ix_tup (pv 3) pe_int (fun _ _ => rfl)) pa_nil)) (by rfl)) <|
    pss_cons (ps_for PassesOwn.never rfl (pi_tup (pe_tup (pa_cons (pv 1) (pa_cons (pv 2) pa_nil)))) (pg_tup rfl (pgs_cons (pg_name (i := 6) scDenies.nd rfl (.inl rfl)) (pgs_cons (pg_name (i := 7) scDenies.nd rfl (.inl rfl)) (pgs_cons (pg_name (i := 8) scDenies.nd rfl (.inl rfl)) pgs_nil))))
      (pss_one (ps_if (pt_cmpR op_eq (pv 7) pe_str (nomark _)) (pss_one (ps_set (i := 4) scDenies.nd rfl (.inl rfl) (pe_callB (call_max2 rfl) (by rfl) B.max (by decide +kernel) (pa_cons (pv 4) (pa_cons (pv 8) pa_nil)))))
        (pss_one (ps_set (i := 5) scDenies.nd rfl (.inl rfl) (pe_callB (call_min2 rfl) (by rfl) B.min (by decide +kernel) (pa_cons (pv 5) (pa_cons (pv 8) pa_nil)))))))) <|
    pss_one (ps_ret (pe_cmpR op_gt (pv 4) (pv 5) (nomark _))), ?_⟩
  obtain ⟨dx, fs, l1, l2, l3, l4, l5, l6⟩ := ls.L.ob
  obtain ⟨kvs, d, wy, u, dn, hk, hv, hd⟩ := dial_of ls.L.dl hy.nm ls.g.dials
  refine ⟨_, rfl, _, rfl, lx, nl, dl, rb, sp, a, ds, rs, y, rfl, ls, ha, hy, _, rfl, ?_⟩
  unfold denyS at k
  cases c0 : fitN (endsOf ds) y with
  | true =>
    rw [c0] at k
    exact iteT (k H (Same.refl H))
  | false =>
    rw [c0, Bool.false_or] at k
    refine iteF ⟨_, rfl, a, _, _, _, rfl, rfl, (.inl ha), (rfl : atI (sayV y) 0 = some (V.str y.1)), _, rfl, b, _, _, _, rfl, rfl, (.inl hb), (rfl : atI (sayV o) 0 = some (V.str o.1)), rfl, _, rfl, ?_⟩
    by_cases c1 : y.1 = o.1
    · rw [decide_eq_true c1, Bool.true_and] at k
      rw [decide_eq_true (show V.str y.1 = V.str o.1 by rw [c1])]
      refine iteF ⟨_, rfl, lx, C, dx, fs, _, rfl, l1, T.cl, T.nD, l3, _, rfl, a, _, _, _, rfl, rfl, (.inl ha), (rfl : atI (sayV y) 0 = some (V.str y.1)), dl, _, rfl, .inl ⟨kvs, Sum.inr y.1, .inl hk, rfl, hv.symm⟩, ?_⟩
      refine ⟨_, rfl, d, _, _, _, rfl, rfl, (.inl hd), rfl, _, rfl, d, _, _, _, rfl, rfl, (.inl hd), rfl, _, _, rfl, ?_⟩
      generalize hE : endsOf ds y.1 = e at k ⊢
      refine ⟨_, rfl, _, rfl, by show 2 ≤ sizeLine; decide, fun t ht => ?_⟩
      have s1 := sameNew ht (.tup [V.ref a, V.ref b])
      have e1 : L2.upd H t (.tup [V.ref a, V.ref b]) t = some (.tup [V.ref a, V.ref b]) := upd_same
      generalize L2.upd H t (.tup [V.ref a, V.ref b]) = H0 at s1 e1
      refine ⟨t, rfl, ⟨_, SqT.of e1⟩, for_it (walk_tup (xs := [V.ref a, V.ref b])) (fun j σ H1 => ∃ v6 v7 v8 : Option V, σ = [some (.ref lx), some (.ref a), some (.ref b), some (.ref d), some (.int (cutJ e y o j).1), some (.int (cutJ e y o j).2), v6, v7, v8] ∧ Same H0 H1)
        ⟨none, none, none, rfl, Same.refl _⟩ (fun j σ H1 _ ⟨_, _, _, _, s⟩ => SqT.of (s _ _ e1)) ?_ ?_⟩
      · rintro j x σ H9 H1 hj ⟨v6, v7, v8, rfl, s2⟩ ⟨rfl, hx⟩
        obtain ⟨p, z, hp, rfl, ec⟩ : ∃ (p : Addr) (z : Say), Rd H p (.tup (sayV z)) ∧ x = .ref p ∧ cutJ e y o (j + 1) = cutE (cutJ e y o j) z := by
          match j, hx with
          | 0, hx => exact ⟨a, y, ha, (Option.some.inj hx).symm, rfl⟩
          | 1, hx => exact ⟨b, o, hb, (Option.some.inj hx).symm, rfl⟩
          | j + 2, hx => simp at hx
        have hp1 := hp.map (fun o e => s2 _ _ (s1 _ _ e))
        refine ⟨p, _, rfl, (.inl hp1), rfl, _, _, rfl, _, _, rfl, _, _, rfl, rfl, ?_⟩
        refine ⟨_, rfl, rfl, _, rfl, ?_⟩
        rw [dec_least, ec]
        generalize cutJ e y o j = q
        unfold cutE
        cases c2 : leastS z with
        | true =>
          refine iteT ?_
          exact ⟨_, rfl, _, rfl, _, _, rfl, ⟨_, _, _, rfl, s2⟩⟩
        | false =>
          refine iteF ?_
          exact ⟨_, rfl, _, rfl, _, _, rfl, ⟨_, _, _, rfl, s2⟩⟩
      · rintro σ H1 ⟨v6, v7, v8, rfl, s2⟩
        exact ⟨_, rfl, _, rfl, _, _, rfl, rfl, k H1 (s1.trans s2)⟩
    · rw [decide_eq_false c1, Bool.false_and] at k
      rw [decide_eq_false (fun z => c1 (V.str.inj z))]
      exact iteT (k H (Same.refl H))
theorem eqv_pair (a b c d : Str) : PyData.eqv (.tuple [.str a, .str b]) (.tuple [.str c, .str d]) = (decide (a = c) && decide (b = d)) := by
  rw [Bool.eq_iff_iff]
  simp [PyData.eqv, PyData.eqvAll]
theorem pair_shaped {a b : Str} (ha : PyData.strOk a = true) (hb : PyData.strOk b = true) : SeqAt.shaped (.tuple [.str a, .str b]) = true := by
  refine shaped_of ?_ ?_
  · show (PyData.strOk a && (PyData.strOk b && true)) = true
    rw [ha, hb]
    rfl
  · simp [PyData.depth, PyData.depthAll]
end
end Pk
end
section
set_option maxHeartbeats 1000000
/-! given_by_one, given. -/
namespace Pk
open PySem L2
/-- a rule: of two sayings, or of a pair -/
inductive Rul where
  | one (p q : Say)
  | pair (w a b : Str) (c : Int)
def RulAt (H : Hp) (r : Addr) : Rul → Prop
  | .one p q => ∃ x y, Rd H r (.tup [V.str "one", V.ref x, V.ref y]) ∧ Rd H x (.tup (sayV p)) ∧ Rd H y (.tup (sayV q))
  | .pair w a b c => Rd H r (.tup [V.str w, V.str a, V.str b, V.int c])
theorem RulAt.same {H H' : Hp} {r : Addr} {R : Rul} (h : RulAt H r R) (s : Same H H') : RulAt H' r R := by
  cases R with
  | one p q =>
    obtain ⟨x, y, h1, h2, h3⟩ := h
    exact ⟨x, y, h1.map (s _), h2.map (s _), h3.map (s _)⟩
  | pair w a b c => exact Rd.map (s _) h
/-- the rule's own words -/
def RulOk (ns : List Str) : Rul → Prop
  | .one p q => SayH ns p ∧ SayH ns q
  | .pair w a b _ => w ∈ pairs3 ∧ a ∈ ns ∧ b ∈ ns
def gByOne (e : Str → Int × Int) (s p q : Say) : List Say := (if denyS e s p = true then [q] else []) ++ (if denyS e s q = true then [p] else [])
def givenR (e : Str → Int × Int) : Rul → Say → List Say
  | .one p q, s => gByOne e s p q
  | .pair w a b c, s =>
    if w = "off" then (if s.1 = a ∧ s.2.1 = "least" then [(b, "least", s.2.2 - c)] else if s.1 = b ∧ s.2.1 = "most" then [(a, "most", s.2.2 + c)] else [])
    else if s.2.1 = w ∨ ¬ (s.1 = a ∨ s.1 = b) then [] else [(if s.1 = a then b else a, w, c - s.2.2)]
theorem givenR_pair {e : Str → Int × Int} {w a b : Str} {c : Int} {s : Say} : givenR e (.pair w a b c) s = if w = ("off" : Str) then (if s.1 = a ∧ s.2.1 = ("least" : Str) then ([(b, "least", s.2.2 - c)] : List Say) else if s.1 = b ∧ s.2.1 = ("most" : Str) then ([(a, "most", s.2.2 + c)] : List Say) else ([] : List Say))
    else if s.2.1 = w ∨ ¬ (s.1 = a ∨ s.1 = b) then ([] : List Say) else ([(if s.1 = a then b else a, w, c - s.2.2)] : List Say) := rfl
/-- sayings where they lie -/
def SaysAt (H : Hp) (as : List Addr) (ss : List Say) : Prop := PySem.Paired (fun a z => Rd H a (.tup (sayV z))) as ss
def spGBO (C : Addr) : Sp := fun vs H Q _ => ∃ (lx nl dl rb sp r a x y : Addr) (ds rs : List PyData) (s p q : Say), vs = [.ref lx, .ref r, .ref a] ∧ LS C H lx nl dl rb sp ds rs ∧ Rd H r (.tup [V.str "one", V.ref x, V.ref y]) ∧ Rd H x (.tup (sayV p)) ∧ Rd H y (.tup (sayV q)) ∧ Rd H a (.tup (sayV s)) ∧ SayH (ds.map nameOf) s ∧
  ∀ (l : Addr) (os : List Addr) (H' : Hp), Same H H' → H l = none → H' l = some (.lst (os.map V.ref)) → SaysAt H' os (gByOne (endsOf ds) s p q) → Q (.ref l) H'
def spGiven (C : Addr) : Sp := fun vs H Q _ => ∃ (lx nl dl rb sp r a : Addr) (ds rs : List PyData) (s : Say) (R : Rul), vs = [.ref lx, .ref r, .ref a] ∧ LS C H lx nl dl rb sp ds rs ∧ RulAt H r R ∧ RulOk (ds.map nameOf) R ∧ Rd H a (.tup (sayV s)) ∧ SayH (ds.map nameOf) s ∧
  ∀ (l : Addr) (os : List Addr) (H' : Hp), Same H H' → H l = none → H' l = some (.lst (os.map V.ref)) → SaysAt H' os (givenR (endsOf ds) R s) → Q (.ref l) H'
theorem LS.same {C : Addr} {H H' : Hp} {lx nl dl rb sp : Addr} {ds rs : List PyData} (h : LS C H lx nl dl rb sp ds rs) (s : Same H H') : LS C H' lx nl dl rb sp ds rs := by
  obtain ⟨⟨⟨dx, fs, h1, h2⟩, h3, ⟨kvs, k1, k2⟩, h5, ⟨kws, j1, j2⟩⟩, g⟩ := h
  refine ⟨⟨⟨dx, fs, s _ _ h1, h2⟩, s _ _ h3, ⟨kvs, s _ _ k1, fun d hd => ?_⟩, h5.same s, ⟨kws, s _ _ j1, fun z hz => ?_⟩⟩, g⟩
  · obtain ⟨v, a, b⟩ := k2 d hd
    exact ⟨v, a, b.same s⟩
  · obtain ⟨l, ys, qs, a1, a2, a3, a4, a5⟩ := j2 z hz
    exact ⟨l, ys, qs, a1, s _ _ a2, a3, a4.same s, a5⟩
section
variable {P : Program} {w : World} {K : PySem.W.Frag} {mg : Str → Option Value} {base : Heap}
abbrev nGBO : List Str := ["layout", "rule", "saying", "word", "first", "second", "told"]
theorem scGBO : FnScope nGBO ["layout", "rule", "saying"] (defScope sGivenByOne) := ⟨rfl, rfl, rfl, by decide +kernel, rfl, by decide +kernel, by decide +kernel⟩
theorem mutN {H H1 : Hp} {l : Addr} {o : HO} (s : Same H H1) (h : H l = none) : Same H (L2.upd H1 l o) := fun b u e => by
  rw [upd_ne (ne_of_none e h)]
  exact s _ _ e
theorem ok_gbo {f g C : Addr} {fd gd : FuncData} (F : Fun K "given_by_one" "given_by_one" sGivenByOne f fd)
    (G : FnOk P w K mg base CX0 2 g gd ["layout", "saying", "other"] (spDenies C)) (bG : Binds K gd ["layout", "saying", "other"] []) (kG : PySem.W.keepIn K (.ref g) = true) (mG : mg "denies" = some (.ref g)) :
    FnOk P w K mg base CX0 3 f fd ["layout", "rule", "saying"] (spGBO C) := by
  refine F.ok scGBO (fun vs H Q E h => ?_) (fun cdv A outer s H vs Q E hr h => ?_)
  · obtain ⟨lx, nl, dl, rb, sp, r, a, x, y, ds, rs, s, p, q, rfl, _⟩ := h
    rfl
  obtain ⟨lx, nl, dl, rb, sp, r, a, x, y, ds, rs, z, p, q, rfl, ls, hr', hx, hy, ha, hz, k⟩ := h
  refine ⟨_, pss_cons (ps_asg (pv 1) (pg_tup (by rfl) (pgs_cons (pg_name (i := 3) scGBO.nd rfl (.inl rfl)) <| pgs_cons (pg_name (i := 4) scGBO.nd rfl (.inl rfl)) <| pgs_cons (pg_name (i := 5) scGBO.nd rfl (.inl rfl)) pgs_nil))) <|
    pss_cons (ps_set (i := 6) scGBO.nd rfl (.inl rfl) (pe_lst pa_nil)) <|
    pss_cons (ps_if (pt_val (pe_call G hr rfl mG kG bG .nil pass0 (pa_cons (pv 0) (pa_cons (pv 2) (pa_cons (pv 4) pa_nil))))) (pss_one (ps_expr (pe_bm PySem.F.plainAttrs_list PySem.F.slot_list_append PySem.F.type_list_append mt_append (pv 6) (pa_cons (pv 5) pa_nil)))) pss_nil) <|
    pss_cons (ps_if (pt_val (pe_call G hr rfl mG kG bG .nil pass0 (pa_cons (pv 0) (pa_cons (pv 2) (pa_cons (pv 5) pa_nil))))) (pss_one (ps_expr (pe_bm PySem.F.plainAttrs_list PySem.F.slot_list_append PySem.F.type_list_append mt_append (pv 6) (pa_cons (pv 4) pa_nil)))) pss_nil) <|
    pss_one (ps_ret (pv 6)), ?_⟩
  have sl := sizeLine_eq
  refine ⟨_, rfl, r, _, rfl, (.inl hr'), rfl, _, _, rfl, _, _, rfl, _, _, rfl, rfl, ?_⟩
  refine ⟨by show 0 ≤ sizeLine; omega, fun l hl => ?_⟩
  have s1 := sameNew hl (.lst [])
  have e1 : L2.upd H l (.lst []) l = some (.lst (([] : List Addr).map V.ref)) := upd_same
  show tSeq _ _ _ _ (L2.upd H l (.lst []))
  generalize L2.upd H l (.lst []) = H1 at s1 e1
  have lsH1 := ls.same s1
  refine ⟨_, rfl, _, rfl, _, rfl, lx, nl, dl, rb, sp, a, x, ds, rs, z, p, rfl, lsH1, ha.map (s1 _), hx.map (s1 _), hz, fun H2 s2 => ⟨_, rfl, ?_⟩⟩
  have s12 := s1.trans s2
  have e2 := s2 _ _ e1
  unfold gByOne at k
  have fin : ∀ (os : List Addr) (zs : List Say) (H3 : Hp), Same H H3 → H3 l = some (.lst (os.map V.ref)) → PySem.Paired (fun a z => Rd H a (.tup (sayV z))) os zs → (if denyS (endsOf ds) z p = true then [q] else []) ++ (if denyS (endsOf ds) z q = true then [p] else []) = zs → Q (.ref l) H3 := fun os zs H3 s3 e3 pr ee => by
    refine k l os H3 s3 hl e3 ?_
    rw [ee]
    exact L2.Paired.mapP pr fun a z h => h.map (s3 _)
  cases c1 : denyS (endsOf ds) z p with
  | true =>
    refine iteT ⟨_, rfl, .inl ⟨rfl, _, SqL.of e2⟩, _, rfl, l, _, _, rfl, rfl, e2, by show 0 < sizeLine; omega, ?_⟩
    have s3 : Same H (L2.upd H2 l (.lst (([] : List Addr).map V.ref ++ [V.ref y]))) := mutN s12 hl
    have e3 : L2.upd H2 l (.lst (([] : List Addr).map V.ref ++ [V.ref y])) l = some (.lst ([y].map V.ref)) := upd_same
    generalize L2.upd H2 l (.lst (([] : List Addr).map V.ref ++ [V.ref y])) = H3 at s3 e3
    refine ⟨_, rfl, _, rfl, _, rfl, lx, nl, dl, rb, sp, a, y, ds, rs, z, q, rfl, ls.same s3, ha.map (s3 _), hy.map (s3 _), hz, fun H4 s4 => ⟨_, rfl, ?_⟩⟩
    have s34 := s3.trans s4
    have e4 := s4 _ _ e3
    cases c2 : denyS (endsOf ds) z q with
    | true =>
      refine iteT ⟨_, rfl, .inl ⟨rfl, _, SqL.of e4⟩, _, rfl, l, _, _, rfl, rfl, e4, by show 1 < sizeLine; omega, ?_⟩
      exact ⟨_, rfl, fin [y, x] [q, p] _ (mutN s34 hl) upd_same (.cons hy (.cons hx .nil)) (by rw [c1, c2]; rfl)⟩
    | false => exact iteF ⟨_, rfl, fin [y] [q] _ s34 e4 (.cons hy .nil) (by rw [c1, c2]; rfl)⟩
  | false =>
    refine iteF ⟨_, rfl, _, rfl, _, rfl, lx, nl, dl, rb, sp, a, y, ds, rs, z, q, rfl, ls.same s12, ha.map (s12 _), hy.map (s12 _), hz, fun H4 s4 => ⟨_, rfl, ?_⟩⟩
    have s34 := s12.trans s4
    have e4 := s4 _ _ e2
    cases c2 : denyS (endsOf ds) z q with
    | true =>
      refine iteT ⟨_, rfl, .inl ⟨rfl, _, SqL.of e4⟩, _, rfl, l, _, _, rfl, rfl, e4, by show 0 < sizeLine; omega, ?_⟩
      exact ⟨_, rfl, fin [x] [p] _ (mutN s34 hl) upd_same (.cons hx .nil) (by rw [c1, c2]; rfl)⟩
    | false => exact iteF ⟨_, rfl, fin [] [] _ s34 e4 .nil (by rw [c1, c2]; rfl)⟩
theorem strIs_str (a b : Str) : strIs a (.str b) = decide (b = a) := by
  rw [Bool.eq_iff_iff, decide_eq_true_eq]
  unfold strIs
  first
    | exact ⟨fun h => of_decide_eq_true h, fun h => decide_eq_true h⟩
    | exact ⟨fun h => (of_decide_eq_true h).symm, fun h => decide_eq_true h.symm⟩
    | (rw [beq_iff_eq])
    | (rw [beq_iff_eq]; exact eq_comm)
abbrev nGiven : List Str := ["layout", "rule", "saying", "word", "a", "b", "c", "name", "sort", "i"]
theorem scGiven : FnScope nGiven ["layout", "rule", "saying"] (defScope sGiven) := ⟨rfl, rfl, rfl, by decide +kernel, rfl, by decide +kernel, by decide +kernel⟩
theorem dec_strV (a b : Str) : decide (V.str a = V.str b) = decide (a = b) := by
  rw [Bool.eq_iff_iff, decide_eq_true_eq, decide_eq_true_eq]
  exact ⟨fun h => V.str.inj h, fun h => by rw [h]⟩
theorem ok_given {f g C : Addr} {fd gd : FuncData} (F : Fun K "given" "given" sGiven f fd)
    (G : FnOk P w K mg base CX0 3 g gd ["layout", "rule", "saying"] (spGBO C)) (bG : Binds K gd ["layout", "rule", "saying"] []) (kG : PySem.W.keepIn K (.ref g) = true) (mG : mg "given_by_one" = some (.ref g)) :
    FnOk P w K mg base CX0 4 f fd ["layout", "rule", "saying"] (spGiven C) := by
  refine F.ok scGiven (fun vs H Q E h => ?_) (fun cdv A outer s H vs Q E hr h => ?_)
  · obtain ⟨lx, nl, dl, rb, sp, r, a, ds, rs, s, R, rfl, _⟩ := h
    rfl
  obtain ⟨lx, nl, dl, rb, sp, r, a, ds, rs, z, R, rfl, ls, hR, oR, ha, hz, k⟩ := h
  have hu := hu_of hr
  refine ⟨_, pss_cons (ps_if (pt_cmpR op_eq (pe_ix ix_tup (pv 1) pe_int (fun _ _ => rfl)) pe_str (nomark _)) (pss_one (ps_ret (pe_call G hr rfl mG kG bG .nil pass0 (pa_cons (pv 0) (pa_cons (pv 1) (pa_cons (pv 2) pa_nil)))))) pss_nil) <|
    pss_cons (ps_asg (pv 1) (pg_tup (by rfl) (pgs_cons (pg_name (i := 3) scGiven.nd rfl (.inl rfl)) <| pgs_cons (pg_name (i := 4) scGiven.nd rfl (.inl rfl)) <| pgs_cons (pg_name (i := 5) scGiven.nd rfl (.inl rfl)) <| pgs_cons (pg_name (i := 6) scGiven.nd rfl (.inl rfl)) pgs_nil))) <|
    pss_cons (ps_asg (pv 2) (pg_tup (by rfl) (pgs_cons (pg_name (i := 7) scGiven.nd rfl (.inl rfl)) <| pgs_cons (pg_name (i := 8) scGiven.nd rfl (.inl rfl)) <| pgs_cons (pg_name (i := 9) scGiven.nd rfl (.inl rfl)) pgs_nil))) <|
    pss_cons (ps_if (pt_cmpR op_eq (pv 3) pe_str (nomark _))
      (pss_cons (ps_if (PW.pt (pw_and (pt_cmpR op_eq (pv 7) (pv 4) (nomark _)) (pw_and1 (pt_cmpR op_eq (pv 8) pe_str (nomark _))))) (pss_one (ps_ret (pe_lst (pa_cons (pe_tup (pa_cons (pv 5) (pa_cons pe_str (pa_cons (pe_op op_sub (pv 9) (pv 6)) pa_nil)))) pa_nil)))) pss_nil) <|
       pss_cons (ps_if (PW.pt (pw_and (pt_cmpR op_eq (pv 7) (pv 5) (nomark _)) (pw_and1 (pt_cmpR op_eq (pv 8) pe_str (nomark _))))) (pss_one (ps_ret (pe_lst (pa_cons (pe_tup (pa_cons (pv 4) (pa_cons pe_str (pa_cons (pe_op op_add (pv 9) (pv 6)) pa_nil)))) pa_nil)))) pss_nil) <|
       pss_one (ps_ret (pe_lst pa_nil))) pss_nil) <|
    pss_cons (ps_if (PW.pt (pw_or (pt_cmpR op_eq (pv 8) (pv 3) (nomark _)) (pw_or1 (pt_cmpR (op_notInS hu) (pv 7) (pe_tup (pa_cons (pv 4) (pa_cons (pv 5) pa_nil))) (by rfl))))) (pss_one (ps_ret (pe_lst pa_nil))) pss_nil) <|
    pss_one (ps_ret (pe_lst (pa_cons (pe_tup (pa_cons (pe_ifExp (pt_cmpR op_eq (pv 7) (pv 4) (nomark _)) (pv 5) (pv 4)) (pa_cons (pv 3) (pa_cons (pe_op op_sub (pv 6) (pv 9)) pa_nil)))) pa_nil))), ?_⟩
  have sl := sizeLine_eq
  cases R with
  | one p q =>
    obtain ⟨x, y, hr1, hx, hy⟩ := hR
    refine ⟨_, rfl, r, _, _, _, rfl, rfl, (.inl hr1), rfl, rfl, _, rfl, ?_⟩
    rw [decide_eq_true rfl]
    exact iteT ⟨_, rfl, _, rfl, _, rfl, lx, nl, dl, rb, sp, r, a, x, y, ds, rs, z, p, q, rfl, ls, hr1, hx, hy, ha, hz, k⟩
  | pair wd na nb c =>
    have hR : Rd H r (.tup [V.str wd, V.str na, V.str nb, V.int c]) := hR
    obtain ⟨ow, oa, ob⟩ := oR
    have w1 : wd ≠ "one" := fun e => by
      rw [e] at ow
      revert ow
      decide +kernel
    -- one saying, told
    have one : ∀ (H1 : Hp) (t : Say), Same H H1 → givenR (endsOf ds) (.pair wd na nb c) z = [t] → ∀ b, H1 b = none → ∀ l, L2.upd H1 b (.tup (sayV t)) l = none → Q (.ref l) (L2.upd (L2.upd H1 b (.tup (sayV t))) l (.lst [V.ref b])) := fun H1 t s1 eg b hb l hl => by
      have s2 := s1.trans (sameNew hb (.tup (sayV t)))
      have l0 : H l = none := s2.free hl
      refine k l [b] _ (s2.trans (sameNew hl _)) l0 upd_same ?_
      rw [eg]
      exact .cons (.inl (sameNew hl _ _ _ upd_same)) .nil
    have nil : ∀ (H1 : Hp), Same H H1 → givenR (endsOf ds) (.pair wd na nb c) z = [] → ∀ l, H1 l = none → Q (.ref l) (L2.upd H1 l (.lst [])) := fun H1 s1 eg l hl => by
      refine k l [] _ (s1.trans (sameNew hl _)) (s1.free hl) upd_same ?_
      rw [eg]
      exact .nil
    refine ⟨_, rfl, r, _, _, _, rfl, rfl, (.inl hR), rfl, rfl, _, rfl, ?_⟩
    rw [dec_strV, decide_eq_false w1]
    refine iteF ⟨_, rfl, r, _, rfl, (.inl hR), rfl, _, _, rfl, _, _, rfl, _, _, rfl, _, _, rfl, rfl, ?_⟩
    refine ⟨_, rfl, a, _, rfl, (.inl ha), rfl, _, _, rfl, _, _, rfl, _, _, rfl, rfl, ?_⟩
    refine ⟨_, rfl, rfl, _, rfl, ?_⟩
    rw [dec_strV]
    by_cases c1 : wd = "off"
    · rw [decide_eq_true c1]
      refine iteT ⟨_, rfl, _, rfl, rfl, _, rfl, ?_⟩
      rw [dec_strV]
      by_cases c2 : z.1 = na
      · rw [decide_eq_true c2]
        refine iteT ⟨_, rfl, rfl, _, rfl, ?_⟩
        rw [dec_strV]
        by_cases c3 : z.2.1 = "least"
        · rw [decide_eq_true c3]
          exact iteT ⟨_, rfl, _, rfl, _, rfl, _, _, rfl, rfl, by show 3 ≤ sizeLine; omega, fun b hb => ⟨by show 1 ≤ sizeLine; omega, fun l hl => one H (nb, "least", z.2.2 - c) (Same.refl H) (by rw [givenR_pair, if_pos c1, if_pos ⟨c2, c3⟩]) b hb l hl⟩⟩
        · rw [decide_eq_false c3]
          refine iteF ?_
          refine ⟨_, rfl, _, rfl, rfl, _, rfl, ?_⟩
          rw [dec_strV]
          by_cases d2 : z.1 = nb
          · rw [decide_eq_true d2]
            refine iteT ⟨_, rfl, rfl, _, rfl, ?_⟩
            rw [dec_strV]
            by_cases d3 : z.2.1 = "most"
            · rw [decide_eq_true d3]
              exact iteT ⟨_, rfl, _, rfl, _, rfl, _, _, rfl, rfl, by show 3 ≤ sizeLine; omega, fun b hb => ⟨by show 1 ≤ sizeLine; omega, fun l hl => one H (na, "most", z.2.2 + c) (Same.refl H) (by rw [givenR_pair, if_pos c1, if_neg (fun q : z.1 = na ∧ z.2.1 = "least" => c3 q.2), if_pos ⟨d2, d3⟩]) b hb l hl⟩⟩
            · rw [decide_eq_false d3]
              exact iteF ⟨by show 0 ≤ sizeLine; omega, fun l hl => nil H (Same.refl H) (by rw [givenR_pair, if_pos c1, if_neg (fun q : z.1 = na ∧ z.2.1 = "least" => c3 q.2), if_neg (fun q => d3 q.2)]) l hl⟩
          · rw [decide_eq_false d2]
            exact iteF ⟨by show 0 ≤ sizeLine; omega, fun l hl => nil H (Same.refl H) (by rw [givenR_pair, if_pos c1, if_neg (fun q : z.1 = na ∧ z.2.1 = "least" => c3 q.2), if_neg (fun q => d2 q.1)]) l hl⟩
      · rw [decide_eq_false c2]
        refine iteF ?_
        refine ⟨_, rfl, _, rfl, rfl, _, rfl, ?_⟩
        rw [dec_strV]
        by_cases d2 : z.1 = nb
        · rw [decide_eq_true d2]
          refine iteT ⟨_, rfl, rfl, _, rfl, ?_⟩
          rw [dec_strV]
          by_cases d3 : z.2.1 = "most"
          · rw [decide_eq_true d3]
            exact iteT ⟨_, rfl, _, rfl, _, rfl, _, _, rfl, rfl, by show 3 ≤ sizeLine; omega, fun b hb => ⟨by show 1 ≤ sizeLine; omega, fun l hl => one H (na, "most", z.2.2 + c) (Same.refl H) (by rw [givenR_pair, if_pos c1, if_neg (fun q : z.1 = na ∧ z.2.1 = "least" => c2 q.1), if_pos ⟨d2, d3⟩]) b hb l hl⟩⟩
          · rw [decide_eq_false d3]
            exact iteF ⟨by show 0 ≤ sizeLine; omega, fun l hl => nil H (Same.refl H) (by rw [givenR_pair, if_pos c1, if_neg (fun q : z.1 = na ∧ z.2.1 = "least" => c2 q.1), if_neg (fun q => d3 q.2)]) l hl⟩
        · rw [decide_eq_false d2]
          exact iteF ⟨by show 0 ≤ sizeLine; omega, fun l hl => nil H (Same.refl H) (by rw [givenR_pair, if_pos c1, if_neg (fun q : z.1 = na ∧ z.2.1 = "least" => c2 q.1), if_neg (fun q => d2 q.1)]) l hl⟩
    · rw [decide_eq_false c1]
      refine iteF ?_
      refine ⟨_, rfl, _, rfl, rfl, _, rfl, ?_⟩
      rw [dec_strV]
      by_cases c2 : z.2.1 = wd
      · rw [decide_eq_true c2]
        exact iteT ⟨by show 0 ≤ sizeLine; omega, fun l hl => nil H (Same.refl H) (by rw [givenR_pair, if_neg c1, if_pos (.inl c2)]) l hl⟩
      · rw [decide_eq_false c2]
        refine iteF ⟨_, rfl, _, rfl, _, rfl, by show 2 ≤ sizeLine; omega, fun t ht => ?_⟩
        have s1 := sameNew ht (.tup [V.str na, V.str nb])
        refine ⟨.str z.1, t, [na, nb], .str _, rfl, .inr (SqT.of upd_same), _, rfl, ?_⟩
        have e : ([na, nb].any fun y => strIs y (.str z.1)) = decide (z.1 = na ∨ z.1 = nb) := by
          show (strIs na (.str z.1) || (strIs nb (.str z.1) || false)) = _
          rw [strIs_str, strIs_str, Bool.or_false, Bool.eq_iff_iff, Bool.or_eq_true, decide_eq_true_eq, decide_eq_true_eq, decide_eq_true_eq]
        rw [e]
        by_cases c3 : z.1 = na ∨ z.1 = nb
        · rw [decide_eq_true c3]
          refine iteF ⟨_, rfl, _, rfl, rfl, _, rfl, ?_⟩
          rw [dec_strV]
          have c5 : ¬ (z.2.1 = wd ∨ ¬ (z.1 = na ∨ z.1 = nb)) := fun q => q.elim c2 fun q => q c3
          by_cases c4 : z.1 = na
          · rw [decide_eq_true c4]
            exact iteT ⟨_, rfl, _, rfl, _, rfl, _, rfl, _, _, rfl, rfl, by show 3 ≤ sizeLine; omega, fun b hb => ⟨by show 1 ≤ sizeLine; omega, fun l hl => one _ (nb, wd, c - z.2.2) s1 (by rw [givenR_pair, if_neg c1, if_neg c5, if_pos c4]) b hb l hl⟩⟩
          · rw [decide_eq_false c4]
            exact iteF ⟨_, rfl, _, rfl, _, rfl, _, rfl, _, _, rfl, rfl, by show 3 ≤ sizeLine; omega, fun b hb => ⟨by show 1 ≤ sizeLine; omega, fun l hl => one _ (na, wd, c - z.2.2) s1 (by rw [givenR_pair, if_neg c1, if_neg c5, if_neg c4]) b hb l hl⟩⟩
        · rw [decide_eq_false c3]
          exact iteT ⟨by show 0 ≤ sizeLine; omega, fun l hl => nil _ s1 (by rw [givenR_pair, if_neg c1, if_pos (.inr c3)]) l hl⟩
end
end Pk
end
section
set_option maxHeartbeats 1000000
/-! Numbers only: what a pull gives, and what of a rule is still to be done. -/
namespace Pk
open PySem PySem.Spec PyProof.Rows L2
def holdS (f : Str → Int) (s : Say) : Bool := if leastS s = true then decide (s.2.2 ≤ f s.1) else decide (f s.1 ≤ s.2.2)
def rulH (f : Str → Int) : Rul → Bool
  | .one p q => holdS f p || holdS f q
  | .pair w a b c => if w = "off" then decide (f a ≤ f b + c) else if w = "most" then decide (f a + f b ≤ c) else decide (c ≤ f a + f b)
/-- f, but x at z -/
def putF (f : Str → Int) (z : Str) (x : Int) : Str → Int := fun y => if y = z then x else f y
theorem putF_same (f : Str → Int) (z : Str) (x : Int) : putF f z x z = x := if_pos rfl
theorem putF_ne (f : Str → Int) {z y : Str} (x : Int) (h : y ≠ z) : putF f z x y = f y := if_neg h
/-- of two dials of a pair, other ones -/
def RulD : Rul → Prop
  | .one _ _ => True
  | .pair _ a b _ => a ≠ b
/-- a pending saying that brings the rule about -/
inductive Cv (f : Str → Int) : Rul → Say → Prop
  | onel {p q : Say} : Cv f (.one p q) p
  | oner {p q : Say} : Cv f (.one p q) q
  | offb {a b : Str} {c y : Int} : f a - c ≤ y → Cv f (.pair "off" a b c) (b, "least", y)
  | offa {a b : Str} {c y : Int} : y ≤ f b + c → Cv f (.pair "off" a b c) (a, "most", y)
  | mostb {a b : Str} {c y : Int} : f a + y ≤ c → Cv f (.pair "most" a b c) (b, "most", y)
  | mosta {a b : Str} {c y : Int} : f b + y ≤ c → Cv f (.pair "most" a b c) (a, "most", y)
  | leastb {a b : Str} {c y : Int} : c ≤ f a + y → Cv f (.pair "least" a b c) (b, "least", y)
  | leasta {a b : Str} {c y : Int} : c ≤ f b + y → Cv f (.pair "least" a b c) (a, "least", y)
def covd (f : Str → Int) (R : Rul) (ss : List Say) : Prop := rulH f R = true ∨ ∃ g ∈ ss, Cv f R g
theorem off_ne_most : ¬ (("most" : Str) = "off") := by decide +kernel
theorem off_ne_least : ¬ (("least" : Str) = "off") := by decide +kernel
theorem least_ne_most : ¬ (("least" : Str) = "most") := by decide +kernel
theorem most_ne_least : ¬ (("most" : Str) = "least") := by decide +kernel
theorem ls_least (z : Str) (i : Int) : leastS (z, "least", i) = true := decide_eq_true rfl
theorem ls_most (z : Str) (i : Int) : leastS (z, "most", i) = false := decide_eq_false most_ne_least
theorem hold_least (f : Str → Int) (z : Str) (i : Int) : holdS f (z, "least", i) = decide (i ≤ f z) := by
  unfold holdS
  rw [ls_least, if_pos rfl]
theorem hold_most (f : Str → Int) (z : Str) (i : Int) : holdS f (z, "most", i) = decide (f z ≤ i) := by
  unfold holdS
  rw [ls_most, if_neg Bool.false_ne_true]
theorem say_two {ns : List Str} {s : Say} (h : SayH ns s) : (∃ (z : Str) (i : Int), s = (z, ("least" : Str), i)) ∨ ∃ (z : Str) (i : Int), s = (z, ("most" : Str), i) := by
  obtain ⟨z, so, i⟩ := s
  have q : so ∈ sorts2 := h.so
  have q2 : so = "least" ∨ so = "most" := by
    simpa [sorts2] using q
  rcases q2 with rfl | rfl
  · exact .inl ⟨z, i, rfl⟩
  · exact .inr ⟨z, i, rfl⟩
theorem rul_pair (f : Str → Int) (w a b : Str) (c : Int) : rulH f (.pair w a b c) = if w = ("off" : Str) then decide (f a ≤ f b + c) else if w = ("most" : Str) then decide (f a + f b ≤ c) else decide (c ≤ f a + f b) := rfl
theorem rul_one (f : Str → Int) (p q : Say) : rulH f (.one p q) = (holdS f p || holdS f q) := rfl
theorem rul_off (f : Str → Int) (a b : Str) (c : Int) : rulH f (.pair "off" a b c) = decide (f a ≤ f b + c) := by rw [rul_pair, if_pos rfl]
theorem rul_most (f : Str → Int) (a b : Str) (c : Int) : rulH f (.pair "most" a b c) = decide (f a + f b ≤ c) := by rw [rul_pair, if_neg off_ne_most, if_pos rfl]
theorem rul_least (f : Str → Int) (a b : Str) (c : Int) : rulH f (.pair "least" a b c) = decide (c ≤ f a + f b) := by rw [rul_pair, if_neg off_ne_least, if_neg least_ne_most]
/-- what is pending and holds has done it -/
theorem Cv.done {f : Str → Int} {R : Rul} {g : Say} (h : Cv f R g) (hg : holdS f g = true) : rulH f R = true := by
  cases h with
  | onel => rw [rul_one, hg, Bool.true_or]
  | oner => rw [rul_one, hg, Bool.or_true]
  | offb q => rw [hold_least, decide_eq_true_eq] at hg; rw [rul_off, decide_eq_true_eq]; omega
  | offa q => rw [hold_most, decide_eq_true_eq] at hg; rw [rul_off, decide_eq_true_eq]; omega
  | mostb q => rw [hold_most, decide_eq_true_eq] at hg; rw [rul_most, decide_eq_true_eq]; omega
  | mosta q => rw [hold_most, decide_eq_true_eq] at hg; rw [rul_most, decide_eq_true_eq]; omega
  | leastb q => rw [hold_least, decide_eq_true_eq] at hg; rw [rul_least, decide_eq_true_eq]; omega
  | leasta q => rw [hold_least, decide_eq_true_eq] at hg; rw [rul_least, decide_eq_true_eq]; omega
theorem covd.pop {f : Str → Int} {R : Rul} {p : Say} {ss : List Say} (h : covd f R (p :: ss)) (hp : holdS f p = true) : covd f R ss := by
  rcases h with h | ⟨g, hg, c⟩
  · exact .inl h
  · rcases List.mem_cons.mp hg with rfl | hg
    · exact .inl (c.done hp)
    · exact .inr ⟨g, hg, c⟩
theorem covd.mono {f : Str → Int} {R : Rul} {ss ts : List Say} (h : covd f R ss) (m : ∀ g ∈ ss, g ∈ ts) : covd f R ts := by
  rcases h with h | ⟨g, hg, c⟩
  · exact .inl h
  · exact .inr ⟨g, m g hg, c⟩
theorem covd.nil {f : Str → Int} {R : Rul} (h : covd f R []) : rulH f R = true := by
  rcases h with h | ⟨g, hg, c⟩
  · exact h
  · exact absurd hg (by simp)
/-! ### what a saying denies -/
theorem cut_in {e : Int × Int} {s : Say} {f : Str → Int} (h1 : e.1 ≤ f s.1) (h2 : f s.1 ≤ e.2) (h : holdS f s = true) : (cutE e s).1 ≤ f s.1 ∧ f s.1 ≤ (cutE e s).2 := by
  unfold holdS at h
  unfold cutE
  cases c : leastS s with
  | true =>
    rw [c, if_pos rfl, decide_eq_true_eq] at h
    rw [if_pos rfl]
    refine ⟨?_, h2⟩
    show (if s.2.2 > e.1 then s.2.2 else e.1) ≤ _
    split <;> omega
  | false =>
    rw [c, if_neg Bool.false_ne_true, decide_eq_true_eq] at h
    rw [if_neg Bool.false_ne_true]
    refine ⟨h1, ?_⟩
    show _ ≤ (if s.2.2 < e.2 then s.2.2 else e.2)
    split <;> omega
theorem deny_sound {e : Str → Int × Int} {f : Str → Int} {s o : Say} (h1 : (e s.1).1 ≤ f s.1) (h2 : f s.1 ≤ (e s.1).2) (hs : holdS f s = true) (hd : denyS e s o = true) : holdS f o = false := by
  unfold denyS at hd
  rw [Bool.or_eq_true] at hd
  rcases hd with hd | hd
  · exfalso
    unfold fitN at hd
    unfold holdS at hs
    cases c : leastS s with
    | true =>
      rw [c, if_pos rfl, decide_eq_true_eq] at hd hs
      omega
    | false =>
      rw [c, if_neg Bool.false_ne_true, decide_eq_true_eq] at hd hs
      omega
  · rw [Bool.and_eq_true, decide_eq_true_eq, decide_eq_true_eq] at hd
    cases q : holdS f o with
    | false => rfl
    | true =>
      exfalso
      obtain ⟨a1, a2⟩ := cut_in h1 h2 hs
      rw [hd.1] at a1 a2
      obtain ⟨b1, b2⟩ := cut_in (e := cutE (e o.1) s) a1 a2 q
      rw [hd.1] at hd
      omega
/-- a dial pulled on: what no longer holds of it is denied -/
theorem deny_full {e : Str → Int × Int} {f : Str → Int} {ns : List Str} {p o : Say} (hp : SayH ns p) (ho : SayH ns o) (l1 : (e p.1).1 ≤ p.2.2) (l2 : p.2.2 ≤ (e p.1).2) (hn : holdS f p = false) (h : holdS f o = true) (h' : holdS (putF f p.1 p.2.2) o = false) : denyS e p o = true := by
  have ez : o.1 = p.1 := by
    by_cases q : o.1 = p.1
    · exact q
    · exfalso
      unfold holdS at h h'
      rw [putF_ne f _ q] at h'
      rw [h] at h'
      cases h'
  unfold denyS
  rw [Bool.or_eq_true]
  refine .inr ?_
  rw [Bool.and_eq_true, decide_eq_true_eq, decide_eq_true_eq]
  refine ⟨ez.symm, ?_⟩
  rcases say_two hp with ⟨z, i, rfl⟩ | ⟨z, i, rfl⟩
  · rcases say_two ho with ⟨y, j, rfl⟩ | ⟨y, j, rfl⟩
    · have ez : y = z := ez
      subst ez
      rw [hold_least, decide_eq_false_iff_not] at hn h'
      rw [hold_least, decide_eq_true_eq] at h
      rw [putF_same] at h'
      have h' : ¬ j ≤ i := h'
      omega
    · have ez : y = z := ez
      subst ez
      have l1 : (e y).1 ≤ i := l1
      have l2 : i ≤ (e y).2 := l2
      rw [hold_least, decide_eq_false_iff_not] at hn
      rw [hold_most, decide_eq_false_iff_not, putF_same] at h'
      have h' : ¬ i ≤ j := h'
      unfold cutE
      rw [ls_least, if_pos rfl, ls_most, if_neg Bool.false_ne_true]
      show (if j < (e y).2 then j else (e y).2) < (if i > (e y).1 then i else (e y).1)
      split <;> split <;> omega
  · rcases say_two ho with ⟨y, j, rfl⟩ | ⟨y, j, rfl⟩
    · have ez : y = z := ez
      subst ez
      have l1 : (e y).1 ≤ i := l1
      have l2 : i ≤ (e y).2 := l2
      rw [hold_least, decide_eq_false_iff_not, putF_same] at h'
      have h' : ¬ j ≤ i := h'
      unfold cutE
      rw [ls_most, if_neg Bool.false_ne_true, ls_least, if_pos rfl]
      show (if i < (e y).2 then i else (e y).2) < (if j > (e y).1 then j else (e y).1)
      split <;> split <;> omega
    · have ez : y = z := ez
      subst ez
      rw [hold_most, decide_eq_false_iff_not] at hn h'
      rw [hold_most, decide_eq_true_eq] at h
      rw [putF_same] at h'
      have h' : ¬ i ≤ j := h'
      omega
/-! ### what a rule gives -/
theorem pairs_three {w : Str} (h : w ∈ pairs3) : w = "off" ∨ w = "most" ∨ w = "least" := by
  simpa [pairs3] using h
theorem given_off {e : Str → Int × Int} {a b : Str} {c : Int} {s : Say} : givenR e (.pair "off" a b c) s = if s.1 = a ∧ s.2.1 = ("least" : Str) then ([(b, "least", s.2.2 - c)] : List Say) else if s.1 = b ∧ s.2.1 = ("most" : Str) then ([(a, "most", s.2.2 + c)] : List Say) else ([] : List Say) := by
  rw [givenR_pair, if_pos rfl]
theorem given_two {e : Str → Int × Int} {w a b : Str} {c : Int} {s : Say} (h : ¬ w = "off") : givenR e (.pair w a b c) s = if s.2.1 = w ∨ ¬ (s.1 = a ∨ s.1 = b) then ([] : List Say) else ([(if s.1 = a then b else a, w, c - s.2.2)] : List Say) := by
  rw [givenR_pair, if_neg h]
/-- what is given holds where the rule and the saying do -/
theorem given_sound {e : Str → Int × Int} {ns : List Str} {f : Str → Int} {R : Rul} {s : Say} (hR : RulOk ns R) (hs : SayH ns s) (h1 : (e s.1).1 ≤ f s.1) (h2 : f s.1 ≤ (e s.1).2) (hr : rulH f R = true) (hf : holdS f s = true) : ∀ g ∈ givenR e R s, holdS f g = true := by
  intro g hg
  cases R with
  | one p q =>
    have hg : g ∈ (if denyS e s p = true then [q] else []) ++ (if denyS e s q = true then [p] else []) := hg
    have hr : (holdS f p || holdS f q) = true := hr
    rw [Bool.or_eq_true] at hr
    rcases List.mem_append.mp hg with hg | hg
    · split at hg
      · rename_i c
        rw [List.mem_singleton.mp hg]
        rcases hr with hr | hr
        · rw [deny_sound h1 h2 hf c] at hr
          cases hr
        · exact hr
      · exact absurd hg (by simp)
    · split at hg
      · rename_i c
        rw [List.mem_singleton.mp hg]
        rcases hr with hr | hr
        · exact hr
        · rw [deny_sound h1 h2 hf c] at hr
          cases hr
      · exact absurd hg (by simp)
  | pair w a b c =>
    rcases pairs_three hR.1 with rfl | rfl | rfl
    · rw [given_off] at hg
      rw [rul_off, decide_eq_true_eq] at hr
      obtain ⟨z, so, i⟩ := s
      split at hg
      · rename_i q
        obtain ⟨rfl, rfl⟩ : z = a ∧ so = "least" := q
        rw [List.mem_singleton.mp hg, hold_least, decide_eq_true_eq]
        rw [hold_least, decide_eq_true_eq] at hf
        show i - c ≤ f b
        omega
      · split at hg
        · rename_i q
          obtain ⟨rfl, rfl⟩ : z = b ∧ so = "most" := q
          rw [List.mem_singleton.mp hg, hold_most, decide_eq_true_eq]
          rw [hold_most, decide_eq_true_eq] at hf
          show f a ≤ i + c
          omega
        · exact absurd hg (by simp)
    · rw [given_two off_ne_most] at hg
      rw [rul_most, decide_eq_true_eq] at hr
      split at hg
      · exact absurd hg (by simp)
      · rename_i q
        rcases say_two hs with ⟨z, i, rfl⟩ | ⟨z, i, rfl⟩
        · have q : ¬ (("least" : Str) = "most" ∨ ¬ (z = a ∨ z = b)) := q
          rw [List.mem_singleton.mp hg]
          rw [hold_least, decide_eq_true_eq] at hf
          show holdS f (if z = a then b else a, "most", c - i) = true
          rw [hold_most, decide_eq_true_eq]
          by_cases q1 : z = a
          · subst q1
            rw [if_pos rfl]
            omega
          · have q2 : z = b := by
              rcases Classical.not_not.mp (fun q3 => q (.inr q3)) with q3 | q3
              · exact absurd q3 q1
              · exact q3
            subst q2
            rw [if_neg q1]
            omega
        · exact absurd (.inl rfl) q
    · rw [given_two off_ne_least] at hg
      rw [rul_least, decide_eq_true_eq] at hr
      split at hg
      · exact absurd hg (by simp)
      · rename_i q
        rcases say_two hs with ⟨z, i, rfl⟩ | ⟨z, i, rfl⟩
        · exact absurd (.inl rfl) q
        · have q : ¬ (("most" : Str) = "least" ∨ ¬ (z = a ∨ z = b)) := q
          rw [List.mem_singleton.mp hg]
          rw [hold_most, decide_eq_true_eq] at hf
          show holdS f (if z = a then b else a, "least", c - i) = true
          rw [hold_least, decide_eq_true_eq]
          by_cases q1 : z = a
          · subst q1
            rw [if_pos rfl]
            omega
          · have q2 : z = b := by
              rcases Classical.not_not.mp (fun q3 => q (.inr q3)) with q3 | q3
              · exact absurd q3 q1
              · exact q3
            subst q2
            rw [if_neg q1]
            omega
end Pk
end
section
set_option maxHeartbeats 1000000
/-! Numbers only: a dial pulled on, what of each rule is still to be done. -/
namespace Pk
open PySem PySem.Spec PyProof.Rows L2
theorem hold_put {f : Str → Int} {ns : List Str} {p : Say} (hp : SayH ns p) : holdS (putF f p.1 p.2.2) p = true := by
  rcases say_two hp with ⟨z, i, rfl⟩ | ⟨z, i, rfl⟩
  · rw [hold_least, putF_same, decide_eq_true_eq]
    exact Int.le_refl _
  · rw [hold_most, putF_same, decide_eq_true_eq]
    exact Int.le_refl _
/-- by numbers: what is pending of "off" -/
theorem cov_off {f : Str → Int} {a b : Str} {c : Int} {ss : List Say} : covd f (.pair "off" a b c) ss ↔ f a ≤ f b + c ∨ (∃ y, (b, ("least" : Str), y) ∈ ss ∧ f a - c ≤ y) ∨ ∃ y, (a, ("most" : Str), y) ∈ ss ∧ y ≤ f b + c := by
  unfold covd
  rw [rul_off, decide_eq_true_eq]
  constructor
  · rintro (h | ⟨g, hg, q⟩)
    · exact .inl h
    · generalize eR : Rul.pair "off" a b c = R at q
      cases q with
      | offb q => cases eR; exact .inr (.inl ⟨_, hg, q⟩)
      | offa q => cases eR; exact .inr (.inr ⟨_, hg, q⟩)
      | onel => cases eR
      | oner => cases eR
      | mostb q => exact absurd (Rul.pair.inj eR).1.symm off_ne_most
      | mosta q => exact absurd (Rul.pair.inj eR).1.symm off_ne_most
      | leastb q => exact absurd (Rul.pair.inj eR).1.symm off_ne_least
      | leasta q => exact absurd (Rul.pair.inj eR).1.symm off_ne_least
  · rintro (h | ⟨y, hy, q⟩ | ⟨y, hy, q⟩)
    · exact .inl h
    · exact .inr ⟨_, hy, .offb q⟩
    · exact .inr ⟨_, hy, .offa q⟩
theorem cov_most {f : Str → Int} {a b : Str} {c : Int} {ss : List Say} : covd f (.pair "most" a b c) ss ↔ f a + f b ≤ c ∨ (∃ y, (b, ("most" : Str), y) ∈ ss ∧ f a + y ≤ c) ∨ ∃ y, (a, ("most" : Str), y) ∈ ss ∧ f b + y ≤ c := by
  unfold covd
  rw [rul_most, decide_eq_true_eq]
  constructor
  · rintro (h | ⟨g, hg, q⟩)
    · exact .inl h
    · generalize eR : Rul.pair "most" a b c = R at q
      cases q with
      | offb q => exact absurd (Rul.pair.inj eR).1 off_ne_most
      | offa q => exact absurd (Rul.pair.inj eR).1 off_ne_most
      | onel => cases eR
      | oner => cases eR
      | mostb q => cases eR; exact .inr (.inl ⟨_, hg, q⟩)
      | mosta q => cases eR; exact .inr (.inr ⟨_, hg, q⟩)
      | leastb q => exact absurd (Rul.pair.inj eR).1 most_ne_least
      | leasta q => exact absurd (Rul.pair.inj eR).1 most_ne_least
  · rintro (h | ⟨y, hy, q⟩ | ⟨y, hy, q⟩)
    · exact .inl h
    · exact .inr ⟨_, hy, .mostb q⟩
    · exact .inr ⟨_, hy, .mosta q⟩
theorem cov_least {f : Str → Int} {a b : Str} {c : Int} {ss : List Say} : covd f (.pair "least" a b c) ss ↔ c ≤ f a + f b ∨ (∃ y, (b, ("least" : Str), y) ∈ ss ∧ c ≤ f a + y) ∨ ∃ y, (a, ("least" : Str), y) ∈ ss ∧ c ≤ f b + y := by
  unfold covd
  rw [rul_least, decide_eq_true_eq]
  constructor
  · rintro (h | ⟨g, hg, q⟩)
    · exact .inl h
    · generalize eR : Rul.pair "least" a b c = R at q
      cases q with
      | offb q => exact absurd (Rul.pair.inj eR).1 off_ne_least
      | offa q => exact absurd (Rul.pair.inj eR).1 off_ne_least
      | onel => cases eR
      | oner => cases eR
      | mostb q => exact absurd (Rul.pair.inj eR).1 least_ne_most
      | mosta q => exact absurd (Rul.pair.inj eR).1 least_ne_most
      | leastb q => cases eR; exact .inr (.inl ⟨_, hg, q⟩)
      | leasta q => cases eR; exact .inr (.inr ⟨_, hg, q⟩)
  · rintro (h | ⟨y, hy, q⟩ | ⟨y, hy, q⟩)
    · exact .inl h
    · exact .inr ⟨_, hy, .leastb q⟩
    · exact .inr ⟨_, hy, .leasta q⟩
theorem mem_p {z y : Str} {so so' : Str} {i j : Int} {ss : List Say} (h : (y, so', j) ∈ (z, so, i) :: ss) : (y = z ∧ so' = so ∧ j = i) ∨ (y, so', j) ∈ ss := by
  rcases List.mem_cons.mp h with h | h
  · cases h
    exact .inl ⟨rfl, rfl, rfl⟩
  · exact .inr h
/-- a dial pulled on -/
theorem covd.step {e : Str → Int × Int} {ns : List Str} {f : Str → Int} {R : Rul} {p : Say} {ss : List Say} (hR : RulOk ns R) (hD : RulD R) (hp : SayH ns p) (l1 : (e p.1).1 ≤ p.2.2) (l2 : p.2.2 ≤ (e p.1).2) (hn : holdS f p = false) (h : covd f R (p :: ss)) : covd (putF f p.1 p.2.2) R (ss ++ givenR e R p) := by
  cases R with
  | one q1 q2 =>
    have mem : ∀ g, g ∈ givenR e (.one q1 q2) p ↔ (denyS e p q1 = true ∧ g = q2) ∨ (denyS e p q2 = true ∧ g = q1) := fun g => by
      show g ∈ (if denyS e p q1 = true then [q2] else []) ++ (if denyS e p q2 = true then [q1] else []) ↔ _
      rw [List.mem_append]
      constructor
      · rintro (h | h) <;> split at h
        · exact .inl ⟨by assumption, List.mem_singleton.mp h⟩
        · exact absurd h (by simp)
        · exact .inr ⟨by assumption, List.mem_singleton.mp h⟩
        · exact absurd h (by simp)
      · rintro (⟨h1, h2⟩ | ⟨h1, h2⟩)
        · exact .inl (by rw [if_pos h1]; exact List.mem_singleton.mpr h2)
        · exact .inr (by rw [if_pos h1]; exact List.mem_singleton.mpr h2)
    rcases h with h | ⟨g, hg, c⟩
    · cases c1 : holdS (putF f p.1 p.2.2) q1 with
      | true => exact .inl (by rw [rul_one, c1, Bool.true_or])
      | false =>
        cases c2 : holdS (putF f p.1 p.2.2) q2 with
        | true => exact .inl (by rw [rul_one, c2, Bool.or_true])
        | false =>
          rw [rul_one, Bool.or_eq_true] at h
          rcases h with h | h
          · exact .inr ⟨q2, List.mem_append_right _ ((mem _).mpr (.inl ⟨deny_full hp hR.1 l1 l2 hn h c1, rfl⟩)), .oner⟩
          · exact .inr ⟨q1, List.mem_append_right _ ((mem _).mpr (.inr ⟨deny_full hp hR.2 l1 l2 hn h c2, rfl⟩)), .onel⟩
    · rcases List.mem_cons.mp hg with rfl | hg
      · have hh : holdS (putF f g.1 g.2.2) g = true := hold_put hp
        cases c with
        | onel => exact .inl (by rw [rul_one, hh, Bool.true_or])
        | oner => exact .inl (by rw [rul_one, hh, Bool.or_true])
      · cases c with
        | onel => exact .inr ⟨_, List.mem_append_left _ hg, .onel⟩
        | oner => exact .inr ⟨_, List.mem_append_left _ hg, .oner⟩
  | pair w a b c =>
    have hab : a ≠ b := hD
    have hw : w ∈ pairs3 := hR.1
    have hba : b ≠ a := fun q => hab q.symm
    rcases pairs_three hw with rfl | rfl | rfl
    · rw [cov_off] at h ⊢
      rcases say_two hp with ⟨z, i, rfl⟩ | ⟨z, i, rfl⟩
      · rw [hold_least, decide_eq_false_iff_not] at hn
        show putF f z i a ≤ putF f z i b + c ∨ _
        by_cases za : z = a
        · subst za
          refine .inr (.inl ⟨i - c, List.mem_append_right _ ?_, ?_⟩)
          · rw [given_off, if_pos ⟨rfl, rfl⟩]
            exact List.mem_singleton.mpr rfl
          · show putF f z i z - c ≤ _
            rw [putF_same]
            exact Int.le_refl _
        · have ea : putF f z i a = f a := putF_ne f i fun q => za q.symm
          by_cases zb : z = b
          · subst zb
            have eb : putF f z i z = i := putF_same f z i
            rw [ea, eb]
            rcases h with h | ⟨y, hy, q⟩ | ⟨y, hy, q⟩
            · exact .inl (by omega)
            · rcases mem_p hy with ⟨_, _, e3⟩ | hy
              · exact .inl (by omega)
              · exact .inr (.inl ⟨y, List.mem_append_left _ hy, by omega⟩)
            · rcases mem_p hy with ⟨e1, _, _⟩ | hy
              · exact absurd e1 hab
              · exact .inr (.inr ⟨y, List.mem_append_left _ hy, by omega⟩)
          · have eb : putF f z i b = f b := putF_ne f i fun q => zb q.symm
            rw [ea, eb]
            rcases h with h | ⟨y, hy, q⟩ | ⟨y, hy, q⟩
            · exact .inl h
            · rcases mem_p hy with ⟨e1, _, _⟩ | hy
              · exact absurd e1.symm zb
              · exact .inr (.inl ⟨y, List.mem_append_left _ hy, by omega⟩)
            · rcases mem_p hy with ⟨e1, _, _⟩ | hy
              · exact absurd e1.symm za
              · exact .inr (.inr ⟨y, List.mem_append_left _ hy, by omega⟩)
      · rw [hold_most, decide_eq_false_iff_not] at hn
        show putF f z i a ≤ putF f z i b + c ∨ _
        by_cases zb : z = b
        · subst zb
          refine .inr (.inr ⟨i + c, List.mem_append_right _ ?_, ?_⟩)
          · rw [given_off, if_neg fun q => hba q.1, if_pos ⟨rfl, rfl⟩]
            exact List.mem_singleton.mpr rfl
          · show _ ≤ putF f z i z + c
            rw [putF_same]
            exact Int.le_refl _
        · have eb : putF f z i b = f b := putF_ne f i fun q => zb q.symm
          by_cases za : z = a
          · subst za
            have ea : putF f z i z = i := putF_same f z i
            rw [ea, eb]
            rcases h with h | ⟨y, hy, q⟩ | ⟨y, hy, q⟩
            · exact .inl (by omega)
            · rcases mem_p hy with ⟨e1, _, _⟩ | hy
              · exact absurd e1 hba
              · exact .inr (.inl ⟨y, List.mem_append_left _ hy, by omega⟩)
            · rcases mem_p hy with ⟨_, _, e3⟩ | hy
              · exact .inl (by omega)
              · exact .inr (.inr ⟨y, List.mem_append_left _ hy, by omega⟩)
          · have ea : putF f z i a = f a := putF_ne f i fun q => za q.symm
            rw [ea, eb]
            rcases h with h | ⟨y, hy, q⟩ | ⟨y, hy, q⟩
            · exact .inl h
            · rcases mem_p hy with ⟨e1, _, _⟩ | hy
              · exact absurd e1.symm zb
              · exact .inr (.inl ⟨y, List.mem_append_left _ hy, by omega⟩)
            · rcases mem_p hy with ⟨e1, _, _⟩ | hy
              · exact absurd e1.symm za
              · exact .inr (.inr ⟨y, List.mem_append_left _ hy, by omega⟩)
    · rw [cov_most] at h ⊢
      rcases say_two hp with ⟨z, i, rfl⟩ | ⟨z, i, rfl⟩
      · rw [hold_least, decide_eq_false_iff_not] at hn
        show putF f z i a + putF f z i b ≤ c ∨ _
        by_cases za : z = a
        · subst za
          refine .inr (.inl ⟨c - i, List.mem_append_right _ ?_, ?_⟩)
          · rw [given_two off_ne_most, if_neg (fun q => q.elim (fun q : ("least" : Str) = "most" => least_ne_most q) fun q => q (.inl rfl)), if_pos rfl]
            exact List.mem_singleton.mpr rfl
          · show putF f z i z + (c - i) ≤ c
            rw [putF_same]
            omega
        · have ea : putF f z i a = f a := putF_ne f i fun q => za q.symm
          by_cases zb : z = b
          · subst zb
            refine .inr (.inr ⟨c - i, List.mem_append_right _ ?_, ?_⟩)
            · rw [given_two off_ne_most, if_neg (fun q => q.elim (fun q : ("least" : Str) = "most" => least_ne_most q) fun q => q (.inr rfl)), if_neg za]
              exact List.mem_singleton.mpr rfl
            · show putF f z i z + (c - i) ≤ c
              rw [putF_same]
              omega
          · have eb : putF f z i b = f b := putF_ne f i fun q => zb q.symm
            rw [ea, eb]
            rcases h with h | ⟨y, hy, q⟩ | ⟨y, hy, q⟩
            · exact .inl h
            · rcases mem_p hy with ⟨e1, _, _⟩ | hy
              · exact absurd e1.symm zb
              · exact .inr (.inl ⟨y, List.mem_append_left _ hy, by omega⟩)
            · rcases mem_p hy with ⟨e1, _, _⟩ | hy
              · exact absurd e1.symm za
              · exact .inr (.inr ⟨y, List.mem_append_left _ hy, by omega⟩)
      · rw [hold_most, decide_eq_false_iff_not] at hn
        show putF f z i a + putF f z i b ≤ c ∨ _
        have ea : putF f z i a ≤ f a := by
          by_cases za : z = a
          · subst za
            rw [putF_same]
            omega
          · rw [putF_ne f i fun q => za q.symm]
            exact Int.le_refl _
        have eb : putF f z i b ≤ f b := by
          by_cases zb : z = b
          · subst zb
            rw [putF_same]
            omega
          · rw [putF_ne f i fun q => zb q.symm]
            exact Int.le_refl _
        rcases h with h | ⟨y, hy, q⟩ | ⟨y, hy, q⟩
        · exact .inl (by omega)
        · rcases mem_p hy with ⟨e1, _, e3⟩ | hy
          · subst e1
            subst e3
            rw [putF_same] at eb ⊢
            exact .inl (by omega)
          · exact .inr (.inl ⟨y, List.mem_append_left _ hy, by show putF f z i a + y ≤ c; omega⟩)
        · rcases mem_p hy with ⟨e1, _, e3⟩ | hy
          · subst e1
            subst e3
            rw [putF_same] at ea ⊢
            exact .inl (by omega)
          · exact .inr (.inr ⟨y, List.mem_append_left _ hy, by show putF f z i b + y ≤ c; omega⟩)
    · rw [cov_least] at h ⊢
      rcases say_two hp with ⟨z, i, rfl⟩ | ⟨z, i, rfl⟩
      · rw [hold_least, decide_eq_false_iff_not] at hn
        show c ≤ putF f z i a + putF f z i b ∨ _
        have ea : f a ≤ putF f z i a := by
          by_cases za : z = a
          · subst za
            rw [putF_same]
            omega
          · rw [putF_ne f i fun q => za q.symm]
            exact Int.le_refl _
        have eb : f b ≤ putF f z i b := by
          by_cases zb : z = b
          · subst zb
            rw [putF_same]
            omega
          · rw [putF_ne f i fun q => zb q.symm]
            exact Int.le_refl _
        rcases h with h | ⟨y, hy, q⟩ | ⟨y, hy, q⟩
        · exact .inl (by omega)
        · rcases mem_p hy with ⟨e1, _, e3⟩ | hy
          · subst e1
            subst e3
            rw [putF_same] at eb ⊢
            exact .inl (by omega)
          · exact .inr (.inl ⟨y, List.mem_append_left _ hy, by show c ≤ putF f z i a + y; omega⟩)
        · rcases mem_p hy with ⟨e1, _, e3⟩ | hy
          · subst e1
            subst e3
            rw [putF_same] at ea ⊢
            exact .inl (by omega)
          · exact .inr (.inr ⟨y, List.mem_append_left _ hy, by show c ≤ putF f z i b + y; omega⟩)
      · rw [hold_most, decide_eq_false_iff_not] at hn
        show c ≤ putF f z i a + putF f z i b ∨ _
        by_cases za : z = a
        · subst za
          refine .inr (.inl ⟨c - i, List.mem_append_right _ ?_, ?_⟩)
          · rw [given_two off_ne_least, if_neg (fun q => q.elim (fun q : ("most" : Str) = "least" => most_ne_least q) fun q => q (.inl rfl)), if_pos rfl]
            exact List.mem_singleton.mpr rfl
          · show c ≤ putF f z i z + (c - i)
            rw [putF_same]
            omega
        · have ea : putF f z i a = f a := putF_ne f i fun q => za q.symm
          by_cases zb : z = b
          · subst zb
            refine .inr (.inr ⟨c - i, List.mem_append_right _ ?_, ?_⟩)
            · rw [given_two off_ne_least, if_neg (fun q => q.elim (fun q : ("most" : Str) = "least" => most_ne_least q) fun q => q (.inr rfl)), if_neg za]
              exact List.mem_singleton.mpr rfl
            · show c ≤ putF f z i z + (c - i)
              rw [putF_same]
              omega
          · have eb : putF f z i b = f b := putF_ne f i fun q => zb q.symm
            rw [ea, eb]
            rcases h with h | ⟨y, hy, q⟩ | ⟨y, hy, q⟩
            · exact .inl h
            · rcases mem_p hy with ⟨e1, _, _⟩ | hy
              · exact absurd e1.symm zb
              · exact .inr (.inl ⟨y, List.mem_append_left _ hy, by omega⟩)
            · rcases mem_p hy with ⟨e1, _, _⟩ | hy
              · exact absurd e1.symm za
              · exact .inr (.inr ⟨y, List.mem_append_left _ hy, by omega⟩)
end Pk
end
section
set_option maxHeartbeats 1000000
/-! Rules as they lie. -/
namespace Pk
open PySem PySem.Spec PyProof.Rows L2
def sayOf : PyData → Say
  | .tuple [.str z, .str so, .int i] => (z, so, i)
  | _ => ("", "", 0)
def rulOf : PyData → Rul
  | .tuple [_, p, q] => .one (sayOf p) (sayOf q)
  | .tuple [.str w, .str a, .str b, .int c] => .pair w a b c
  | _ => .pair "" "" "" 0
theorem nmK_ok {ds rs : List PyData} (hg : HouseG ds rs) {z : Str} (h : z ∈ ds.map nameOf) : nmOk z := by
  obtain ⟨d, hd, rfl⟩ := List.mem_map.mp h
  obtain ⟨nm, way, lo, hi, up, dn, rfl, h1, _⟩ := hg.dials d hd
  exact h1
theorem nmK_str {ds rs : List PyData} (hg : HouseG ds rs) {z : Str} (h : z ∈ ds.map nameOf) : PyData.strOk z = true := (nm_str (nmK_ok hg h)).1
theorem sayK_of {ns : List Str} {d : PyData} (h : sayingD ns d = true) : SayH ns (sayOf d) ∧ d = sayP (sayOf d) ∧ -greatS ≤ (sayOf d).2.2 ∧ (sayOf d).2.2 ≤ greatS := by
  match d, h with
  | .tuple [n, s, i], h =>
    rw [show sayingD ns (.tuple [n, s, i]) = (inS ns n && (inS sorts2 s && wholeD (-greatS) greatS i)) from rfl, Bool.and_eq_true, Bool.and_eq_true] at h
    obtain ⟨h1, h2, h3⟩ := h
    obtain ⟨z, hz, rfl⟩ := inS_is h1
    obtain ⟨so, hso, rfl⟩ := inS_is h2
    obtain ⟨j, rfl⟩ := whole_is h3
    rw [wholeD_int, Bool.and_eq_true, decide_eq_true_eq, decide_eq_true_eq] at h3
    exact ⟨⟨hz, hso⟩, rfl, h3.1, h3.2⟩
theorem say_tr {H : Hp} {v : V} {s : Say} (t : Tr H v (sayP s)) : ∃ a, v = .ref a ∧ Rd H a (.tup (sayV s)) := by
  obtain ⟨p, u, v', w, rfl, h, t1, t2, t3⟩ := tup3 t
  cases t1
  cases t2
  cases t3
  exact ⟨p, rfl, h⟩
theorem tupW {H : Hp} {x : V} {w a b : Str} {c : Int} (t : Tr H x (.tuple [.str w, .str a, .str b, .int c])) : ∃ p, x = .ref p ∧ Rd H p (.tup [.str w, .str a, .str b, .int c]) := by
  cases t with
  | @tup p xs _ h al =>
    revert h
    match xs, al with
    | [_, _, _, _], .cons (.str _) (.cons (.str _) (.cons (.str _) (.cons (.int _) .nil))) => exact fun h => ⟨p, rfl, h⟩
/-- a rule where it lies -/
theorem rul_of {H : Hp} {ns : List Str} {v : V} {r : PyData} (t : Tr H v r) (h : RuleG ns r) : ∃ a, v = .ref a ∧ RulAt H a (rulOf r) ∧ RulOk ns (rulOf r) := by
  rcases rule_is h.rule with ⟨p, q, rfl, h1, h2⟩ | ⟨w, a, b, c, rfl, h1, h2, h3⟩
  · obtain ⟨k1, e1, _⟩ := sayK_of h1
    obtain ⟨k2, e2, _⟩ := sayK_of h2
    obtain ⟨x, u, v1, v2, rfl, hx, tu, t1, t2⟩ := tup3 t
    rw [e1] at t1
    rw [e2] at t2
    obtain ⟨y, rfl, hy⟩ := say_tr t1
    obtain ⟨z, rfl, hz⟩ := say_tr t2
    cases tu
    exact ⟨x, rfl, ⟨y, z, hx, hy, hz⟩, k1, k2⟩
  · obtain ⟨x, rfl, hx⟩ := tupW t
    exact ⟨x, rfl, hx, h1, h2, h3⟩
theorem rul_ne {ns : List Str} {r : PyData} (h : RuleG ns r) : RulD (rulOf r) := by
  have q := h.rule
  rcases rule_is h.rule with ⟨p, q, rfl, h1, h2⟩ | ⟨w, a, b, c, rfl, h1, h2, h3⟩
  · trivial
  · unfold ruleD at q
    show a ≠ b
    rw [Bool.and_eq_true, Bool.and_eq_true, Bool.and_eq_true, Bool.and_eq_true] at q
    have q2 := q.2.2.2.1
    intro e
    subst e
    rw [show sameS (.str a) (.str a) = true from decide_eq_true rfl] at q2
    cases q2
theorem given_ok {e : Str → Int × Int} {ns : List Str} {R : Rul} {s : Say} (h : RulOk ns R) (hs : SayH ns s) : ∀ t ∈ givenR e R s, SayH ns t := fun t ht => by
  cases R with
  | one p q =>
    have ht : t ∈ gByOne e s p q := ht
    unfold gByOne at ht
    rcases List.mem_append.mp ht with ht | ht
    · split at ht
      · rw [List.mem_singleton.mp ht]
        exact h.2
      · cases ht
    · split at ht
      · rw [List.mem_singleton.mp ht]
        exact h.1
      · cases ht
  | pair w a b c =>
    obtain ⟨h1, h2, h3⟩ := h
    have l1 : ("least" : Str) ∈ sorts2 := by decide +kernel
    have l2 : ("most" : Str) ∈ sorts2 := by decide +kernel
    rw [givenR_pair] at ht
    split at ht
    · split at ht
      · rw [List.mem_singleton.mp ht]
        exact ⟨h3, l1⟩
      · split at ht
        · rw [List.mem_singleton.mp ht]
          exact ⟨h2, l2⟩
        · cases ht
    · rename_i nw
      split at ht
      · cases ht
      · rw [List.mem_singleton.mp ht]
        have hw : w ∈ sorts2 := by
          have q : ∀ x ∈ pairs3, x = "off" ∨ x ∈ sorts2 := by decide +kernel
          exact (q w h1).elim (fun z => (nw z).elim) id
        refine ⟨?_, hw⟩
        show (if s.1 = a then b else a) ∈ ns
        split
        · exact h3
        · exact h2
theorem given_len (e : Str → Int × Int) (R : Rul) (s : Say) : (givenR e R s).length ≤ 2 := by
  cases R with
  | one p q =>
    show (gByOne e s p q).length ≤ 2
    unfold gByOne
    rw [List.length_append]
    split <;> split <;> simp
  | pair w a b c =>
    rw [givenR_pair]
    split
    · split
      · simp
      · split <;> simp
    · split <;> simp
theorem hold_saying {f : Str → Int} {ns : List Str} {d : PyData} (h : sayingD ns d = true) : holdsS f d = holdS f (sayOf d) := by
  obtain ⟨_, e, _⟩ := sayK_of h
  generalize sayOf d = s at e
  subst e
  obtain ⟨z, so, i⟩ := s
  show (if decide (so = "least") = true then decide (i ≤ f z) else decide (f z ≤ i)) = _
  rfl
theorem rule_rul {f : Str → Int} {ns : List Str} {r : PyData} (h : RuleG ns r) : ruleH f r = rulH f (rulOf r) := by
  rcases rule_is h.rule with ⟨p, q, rfl, h1, h2⟩ | ⟨w, a, b, c, rfl, h1, h2, h3⟩
  · show (holdsS f p || holdsS f q) = (holdS f (sayOf p) || holdS f (sayOf q))
    rw [hold_saying h1, hold_saying h2]
  · show (if decide (w = "off") = true then _ else if decide (w = "most") = true then _ else _) = rulH f (.pair w a b c)
    rw [rul_pair]
    simp only [decide_eq_true_eq]
end Pk
end
section
set_option maxHeartbeats 1000000
/-! Numbers only: a heave that is pulled on, saying by saying. -/
namespace Pk
open PySem PySem.Spec PyProof.Rows L2
def absI (x : Int) : Int := if x < 0 then -x else x
def goesI (w : Str) (x y : Int) : Prop := (x < y → w ≠ "down") ∧ (y < x → w ≠ "up")
def btw (a b c : Int) : Prop := (a ≤ b ∧ b ≤ c) ∨ (c ≤ b ∧ b ≤ a)
def distI (ns : List Str) (f g : Str → Int) : Int := (ns.map fun z => absI (f z - g z)).sum
theorem abs_nn (x : Int) : 0 ≤ absI x := by unfold absI; split <;> omega
theorem abs_zero {x : Int} (h : absI x = 0) : x = 0 := by unfold absI at h; split at h <;> omega
theorem abs_btw {a b c : Int} (h : btw a b c) : absI (a - b) + absI (b - c) = absI (a - c) := by
  unfold btw at h
  unfold absI
  split <;> split <;> split <;> omega
theorem dist_nn (f g : Str → Int) : ∀ ns : List Str, 0 ≤ distI ns f g
  | [] => Int.le_refl _
  | z :: ns => by
    have := dist_nn f g ns
    have := abs_nn (f z - g z)
    show 0 ≤ absI (f z - g z) + distI ns f g
    omega
theorem dist_zero {f g : Str → Int} : ∀ {ns : List Str}, distI ns f g ≤ 0 → ∀ z ∈ ns, f z = g z
  | [], _, z, h => absurd h (by simp)
  | y :: ns, h, z, hz => by
    have h : absI (f y - g y) + distI ns f g ≤ 0 := h
    have := dist_nn f g ns
    have h2 := abs_nn (f y - g y)
    rcases List.mem_cons.mp hz with rfl | hz
    · have := abs_zero (x := f z - g z) (by omega)
      omega
    · exact dist_zero (by omega) z hz
theorem dist_btw {f g t : Str → Int} : ∀ {ns : List Str}, (∀ z ∈ ns, btw (f z) (g z) (t z)) → distI ns f g + distI ns g t = distI ns f t
  | [], _ => rfl
  | z :: ns, h => by
    have ih := dist_btw (ns := ns) (f := f) (g := g) (t := t) fun y hy => h y (List.mem_cons_of_mem _ hy)
    have a := abs_btw (h z List.mem_cons_self)
    show absI (f z - g z) + distI ns f g + (absI (g z - t z) + distI ns g t) = absI (f z - t z) + distI ns f t
    omega
theorem dist_ext {f g f' g' : Str → Int} : ∀ {ns : List Str}, (∀ z ∈ ns, f z = f' z ∧ g z = g' z) → distI ns f g = distI ns f' g'
  | [], _ => rfl
  | z :: ns, h => by
    have ih := dist_ext (ns := ns) (f := f) (g := g) fun y hy => h y (List.mem_cons_of_mem _ hy)
    obtain ⟨a, b⟩ := h z List.mem_cons_self
    show absI (f z - g z) + distI ns f g = absI (f' z - g' z) + distI ns f' g'
    rw [a, b, ih]
theorem dist_put {f0 f : Str → Int} {z : Str} {x : Int} : ∀ {ns : List Str}, ns.Nodup → z ∈ ns → distI ns f0 (putF f z x) = distI ns f0 f - absI (f0 z - f z) + absI (f0 z - x)
  | [], _, h => absurd h (by simp)
  | y :: ns, nd, h => by
    rw [List.nodup_cons] at nd
    show absI (f0 y - putF f z x y) + distI ns f0 (putF f z x) = absI (f0 y - f y) + distI ns f0 f - absI (f0 z - f z) + absI (f0 z - x)
    by_cases c : y = z
    · subst c
      have e : distI ns f0 (putF f y x) = distI ns f0 f := dist_ext fun u hu => ⟨rfl, putF_ne f x fun q => nd.1 (by rw [← q]; exact hu)⟩
      rw [e, putF_same]
      omega
    · have hz : z ∈ ns := by
        rcases List.mem_cons.mp h with q | q
        · exact absurd q.symm c
        · exact q
      have ih := dist_put (f0 := f0) (f := f) (x := x) nd.2 hz
      rw [putF_ne f x c, ih]
      omega
/-- may_go -/
def mayGo (e : Int × Int) (w : Str) (start here to : Int) : Bool := (decide (e.1 ≤ to) && decide (to ≤ e.2)) && (if here < to then decide (start ≤ here) && decide (w ≠ "down") else decide (here ≤ start) && decide (w ≠ "up"))
/-- where a heave may go that meets the saying -/
structure Tgt (ns : List Str) (e : Str → Int × Int) (wy : Str → Str) (Rs : List Rul) (f0 : Str → Int) (s0 : Say) (str : Int) (t : Str → Int) : Prop where
  span : ∀ z ∈ ns, (e z).1 ≤ t z ∧ t z ≤ (e z).2
  rul : ∀ R ∈ Rs, rulH t R = true
  say : holdS t s0 = true
  goes : ∀ z ∈ ns, goesI (wy z) (f0 z) (t z)
  near : distI ns f0 t ≤ str
/-- a heave under way -/
structure Pul (ns : List Str) (e : Str → Int × Int) (wy : Str → Str) (Rs : List Rul) (f0 : Str → Int) (s0 : Say) (str : Int) (f : Str → Int) (size : Int) (ss : List Say) : Prop where
  span : ∀ z ∈ ns, (e z).1 ≤ f z ∧ f z ≤ (e z).2
  goes : ∀ z ∈ ns, goesI (wy z) (f0 z) (f z)
  far : size = distI ns f0 f
  le : size ≤ str
  cov : ∀ R ∈ Rs, covd f R ss
  says : ∀ s ∈ ss, SayH ns s
  begun : s0 ∈ ss ∨ 1 ≤ size
  tgt : ∀ t, Tgt ns e wy Rs f0 s0 str t → (∀ s ∈ ss, holdS t s = true) ∧ ∀ z ∈ ns, btw (f0 z) (f z) (t z)
section
variable {ns : List Str} {e : Str → Int × Int} {wy : Str → Str} {Rs : List Rul} {f0 : Str → Int} {s0 : Say} {str : Int} {f : Str → Int} {size : Int} {ss : List Say} {p : Say}
theorem dist_self (f : Str → Int) : ∀ ns : List Str, distI ns f f = 0
  | [] => rfl
  | z :: ns => by
    show absI (f z - f z) + distI ns f f = 0
    rw [dist_self f ns, Int.sub_self]
    rfl
theorem Pul.init (sp : ∀ z ∈ ns, (e z).1 ≤ f0 z ∧ f0 z ≤ (e z).2) (rl : ∀ R ∈ Rs, rulH f0 R = true) (hs : SayH ns s0) (h0 : 0 ≤ str) : Pul ns e wy Rs f0 s0 str f0 0 [s0] :=
  ⟨sp, fun z _ => ⟨fun h => absurd h (Int.lt_irrefl _), fun h => absurd h (Int.lt_irrefl _)⟩, (dist_self f0 ns).symm, h0, fun R hR => .inl (rl R hR), fun s h => by rw [List.mem_singleton.mp h]; exact hs, .inl (List.mem_singleton.mpr rfl),
    fun t T => ⟨fun s h => by rw [List.mem_singleton.mp h]; exact T.say, fun z _ => by unfold btw; omega⟩⟩
theorem hold_ext {f g : Str → Int} {s : Say} (h : f s.1 = g s.1) : holdS f s = holdS g s := by
  unfold holdS
  rw [h]
theorem Pul.pop (hs : SayH ns s0) (hn : holdS f0 s0 = false) (h : Pul ns e wy Rs f0 s0 str f size (ss ++ [p])) (hp : holdS f p = true) : Pul ns e wy Rs f0 s0 str f size ss := by
  refine ⟨h.span, h.goes, h.far, h.le, fun R hR => (covd.mono (h.cov R hR) fun g hg => ?_).pop hp, fun s hs => h.says s (List.mem_append_left _ hs), ?_, fun t T => ⟨fun s hs => (h.tgt t T).1 s (List.mem_append_left _ hs), (h.tgt t T).2⟩⟩
  · rcases List.mem_append.mp hg with hg | hg
    · exact List.mem_cons_of_mem _ hg
    · rw [List.mem_singleton.mp hg]
      exact List.mem_cons_self
  · rcases h.begun with q | q
    · rcases List.mem_append.mp q with q | q
      · exact .inl q
      · refine .inr ?_
        have e1 := List.mem_singleton.mp q
        by_cases c : 1 ≤ size
        · exact c
        · exfalso
          have z := dist_zero (f := f0) (g := f) (ns := ns) (by have := h.far; omega) s0.1 hs.nm
          rw [hold_ext z, e1, hp] at hn
          cases hn
    · exact .inr q
/-- the step that a pull takes is one away from where it began -/
theorem may_facts (hm : mayGo (e p.1) (wy p.1) (f0 p.1) (f p.1) p.2.2 = true) : ((e p.1).1 ≤ p.2.2 ∧ p.2.2 ≤ (e p.1).2) ∧ ((f p.1 < p.2.2 ∧ f0 p.1 ≤ f p.1 ∧ wy p.1 ≠ "down") ∨ (p.2.2 ≤ f p.1 ∧ f p.1 ≤ f0 p.1 ∧ wy p.1 ≠ "up")) := by
  unfold mayGo at hm
  rw [Bool.and_eq_true, Bool.and_eq_true, decide_eq_true_eq, decide_eq_true_eq] at hm
  refine ⟨hm.1, ?_⟩
  by_cases c : f p.1 < p.2.2
  · rw [if_pos c, Bool.and_eq_true, decide_eq_true_eq, decide_eq_true_eq] at hm
    exact .inl ⟨c, hm.2⟩
  · rw [if_neg c, Bool.and_eq_true, decide_eq_true_eq, decide_eq_true_eq] at hm
    exact .inr ⟨by omega, hm.2⟩
theorem Pul.away (hp : SayH ns p) (nd : ns.Nodup) (hm : mayGo (e p.1) (wy p.1) (f0 p.1) (f p.1) p.2.2 = true) : distI ns f0 (putF f p.1 p.2.2) = distI ns f0 f + absI (p.2.2 - f p.1) := by
  rw [dist_put nd hp.nm]
  obtain ⟨_, q | q⟩ := may_facts hm <;> unfold absI <;> split <;> split <;> split <;> omega
theorem Pul.move (nd : ns.Nodup) (ok : ∀ R ∈ Rs, RulOk ns R ∧ RulD R) {gs : List Say} (h : Pul ns e wy Rs f0 s0 str f size (ss ++ [p])) (hp : holdS f p = false) (hm : mayGo (e p.1) (wy p.1) (f0 p.1) (f p.1) p.2.2 = true) (hl : size + absI (p.2.2 - f p.1) ≤ str)
    (g1 : ∀ g ∈ gs, ∃ R ∈ Rs, g ∈ givenR e R p) (g2 : ∀ R ∈ Rs, ∀ g ∈ givenR e R p, g ∈ gs) (g3 : ∀ g ∈ gs, SayH ns g) : Pul ns e wy Rs f0 s0 str (putF f p.1 p.2.2) (size + absI (p.2.2 - f p.1)) (ss ++ gs) := by
  have hps := h.says p (List.mem_append_right _ (List.mem_singleton.mpr rfl))
  have aw := Pul.away (f0 := f0) (f := f) hps nd hm
  obtain ⟨⟨l1, l2⟩, mv⟩ := may_facts hm
  have pos : 1 ≤ absI (p.2.2 - f p.1) := by
    rcases say_two hps with ⟨z, i, rfl⟩ | ⟨z, i, rfl⟩
    · rw [hold_least, decide_eq_false_iff_not] at hp
      show 1 ≤ absI (i - f z)
      unfold absI
      split <;> omega
    · rw [hold_most, decide_eq_false_iff_not] at hp
      show 1 ≤ absI (i - f z)
      unfold absI
      split <;> omega
  have hnn : 0 ≤ size := by rw [h.far]; exact dist_nn _ _ _
  refine ⟨fun z hz => ?_, fun z hz => ?_, by rw [aw, h.far], hl, fun R hR => ?_, fun s hs => ?_, .inr (by omega), fun t T => ?_⟩
  · by_cases c : z = p.1
    · subst c
      rw [putF_same]
      exact ⟨l1, l2⟩
    · rw [putF_ne f _ c]
      exact h.span z hz
  · by_cases c : z = p.1
    · subst c
      rw [putF_same]
      rcases mv with ⟨m1, m2, m3⟩ | ⟨m1, m2, m3⟩
      · exact ⟨fun _ => m3, fun q => by omega⟩
      · exact ⟨fun q => by omega, fun _ => m3⟩
    · rw [putF_ne f _ c]
      exact h.goes z hz
  · refine (covd.step (e := e) (ns := ns) (ok R hR).1 (ok R hR).2 hps l1 l2 hp (ss := ss) (covd.mono (h.cov R hR) fun g hg => ?_)).mono fun g hg => ?_
    · rcases List.mem_append.mp hg with hg | hg
      · exact List.mem_cons_of_mem _ hg
      · rw [List.mem_singleton.mp hg]
        exact List.mem_cons_self
    · rcases List.mem_append.mp hg with hg | hg
      · exact List.mem_append_left _ hg
      · exact List.mem_append_right _ (g2 R hR g hg)
  · rcases List.mem_append.mp hs with hs | hs
    · exact h.says s (List.mem_append_left _ hs)
    · exact g3 s hs
  · obtain ⟨t1, t2⟩ := h.tgt t T
    have tp := t1 p (List.mem_append_right _ (List.mem_singleton.mpr rfl))
    obtain ⟨s1, s2⟩ := T.span p.1 hps.nm
    refine ⟨fun s hs => ?_, fun z hz => ?_⟩
    · rcases List.mem_append.mp hs with hs | hs
      · exact t1 s (List.mem_append_left _ hs)
      · obtain ⟨R, hR, hg⟩ := g1 s hs
        exact given_sound (ok R hR).1 hps s1 s2 (T.rul R hR) tp s hg
    · by_cases c : z = p.1
      · subst c
        rw [putF_same]
        have b := t2 p.1 hz
        unfold btw at b ⊢
        rcases say_two hps with ⟨z, i, rfl⟩ | ⟨z, i, rfl⟩
        · rw [hold_least, decide_eq_false_iff_not] at hp
          rw [hold_least, decide_eq_true_eq] at tp
          have mv : (f z < i ∧ f0 z ≤ f z ∧ _) ∨ (i ≤ f z ∧ f z ≤ f0 z ∧ _) := mv
          show (f0 z ≤ i ∧ i ≤ t z) ∨ (t z ≤ i ∧ i ≤ f0 z)
          omega
        · rw [hold_most, decide_eq_false_iff_not] at hp
          rw [hold_most, decide_eq_true_eq] at tp
          have mv : (f z < i ∧ f0 z ≤ f z ∧ _) ∨ (i ≤ f z ∧ f z ≤ f0 z ∧ _) := mv
          show (f0 z ≤ i ∧ i ≤ t z) ∨ (t z ≤ i ∧ i ≤ f0 z)
          omega
      · rw [putF_ne f _ c]
        exact t2 z hz
/-- a pull that fails: there is nowhere to go -/
theorem Pul.fail (nd : ns.Nodup) (h : Pul ns e wy Rs f0 s0 str f size (ss ++ [p])) (hp : holdS f p = false) (hf : mayGo (e p.1) (wy p.1) (f0 p.1) (f p.1) p.2.2 = false ∨ str < size + absI (p.2.2 - f p.1)) : ∀ t, ¬ Tgt ns e wy Rs f0 s0 str t := by
  intro t T
  have hps := h.says p (List.mem_append_right _ (List.mem_singleton.mpr rfl))
  obtain ⟨t1, t2⟩ := h.tgt t T
  have tp := t1 p (List.mem_append_right _ (List.mem_singleton.mpr rfl))
  have b := t2 p.1 hps.nm
  have s := T.span p.1 hps.nm
  have sf := h.span p.1 hps.nm
  have go := T.goes p.1 hps.nm
  have hm : mayGo (e p.1) (wy p.1) (f0 p.1) (f p.1) p.2.2 = true := by
    unfold mayGo
    unfold btw at b
    unfold goesI at go
    rw [Bool.and_eq_true, Bool.and_eq_true, decide_eq_true_eq, decide_eq_true_eq]
    rcases say_two hps with ⟨z, i, rfl⟩ | ⟨z, i, rfl⟩
    · rw [hold_least, decide_eq_false_iff_not] at hp
      rw [hold_least, decide_eq_true_eq] at tp
      have b : (f0 z ≤ f z ∧ f z ≤ t z) ∨ (t z ≤ f z ∧ f z ≤ f0 z) := b
      have s : (e z).1 ≤ t z ∧ t z ≤ (e z).2 := s
      have sf : (e z).1 ≤ f z ∧ f z ≤ (e z).2 := sf
      have go : (f0 z < t z → wy z ≠ "down") ∧ _ := go
      show ((e z).1 ≤ i ∧ i ≤ (e z).2) ∧ (if f z < i then _ else _) = true
      rw [if_pos (by omega), Bool.and_eq_true, decide_eq_true_eq, decide_eq_true_eq]
      exact ⟨by omega, by show f0 z ≤ f z; omega, go.1 (by omega)⟩
    · rw [hold_most, decide_eq_false_iff_not] at hp
      rw [hold_most, decide_eq_true_eq] at tp
      have b : (f0 z ≤ f z ∧ f z ≤ t z) ∨ (t z ≤ f z ∧ f z ≤ f0 z) := b
      have s : (e z).1 ≤ t z ∧ t z ≤ (e z).2 := s
      have sf : (e z).1 ≤ f z ∧ f z ≤ (e z).2 := sf
      have go : _ ∧ (t z < f0 z → wy z ≠ "up") := go
      show ((e z).1 ≤ i ∧ i ≤ (e z).2) ∧ (if f z < i then _ else _) = true
      rw [if_neg (by omega), Bool.and_eq_true, decide_eq_true_eq, decide_eq_true_eq]
      exact ⟨by omega, by show f z ≤ f0 z; omega, go.2 (by omega)⟩
  rcases hf with hf | hf
  · rw [hm] at hf
    cases hf
  · have aw := Pul.away (f0 := f0) (f := f) hps nd hm
    have d := dist_btw (f := f0) (g := putF f p.1 p.2.2) (t := t) (ns := ns) fun z hz => by
      by_cases c : z = p.1
      · subst c
        rw [putF_same]
        obtain ⟨_, mv⟩ := may_facts hm
        unfold btw at b ⊢
        rcases say_two hps with ⟨z, i, rfl⟩ | ⟨z, i, rfl⟩
        · rw [hold_least, decide_eq_false_iff_not] at hp
          rw [hold_least, decide_eq_true_eq] at tp
          have mv : (f z < i ∧ f0 z ≤ f z ∧ _) ∨ (i ≤ f z ∧ f z ≤ f0 z ∧ _) := mv
          show (f0 z ≤ i ∧ i ≤ t z) ∨ (t z ≤ i ∧ i ≤ f0 z)
          omega
        · rw [hold_most, decide_eq_false_iff_not] at hp
          rw [hold_most, decide_eq_true_eq] at tp
          have mv : (f z < i ∧ f0 z ≤ f z ∧ _) ∨ (i ≤ f z ∧ f z ≤ f0 z ∧ _) := mv
          show (f0 z ≤ i ∧ i ≤ t z) ∨ (t z ≤ i ∧ i ≤ f0 z)
          omega
      · rw [putF_ne f _ c]
        exact t2 z hz
    have nn := dist_nn (putF f p.1 p.2.2) t ns
    have := h.far
    have := T.near
    omega
/-- nothing is pending -/
theorem Pul.done (h : Pul ns e wy Rs f0 s0 str f size []) : (∀ R ∈ Rs, rulH f R = true) ∧ 1 ≤ size := by
  refine ⟨fun R hR => (h.cov R hR).nil, ?_⟩
  rcases h.begun with q | q
  · exact absurd q (by simp)
  · exact q
end
end Pk
end
section
set_option maxHeartbeats 1000000
/-! Numbers set by name; holds of a saying of any number; may_go. -/
namespace Pk
open PySem PySem.Spec PyProof.Rows L2
abbrev sMayGo : Stmt := topH 49
/-- the numbers with one of them otherwise -/
def setE (em : List (Str × Int)) (t : Str × Int) : List (Str × Int) := em.map fun x => if x.1 = t.1 then (x.1, t.2) else x
theorem set_keys (em : List (Str × Int)) (t : Str × Int) : (setE em t).map (·.1) = em.map (·.1) := by
  unfold setE
  rw [List.map_map]
  apply List.map_congr_left
  intro x _
  show (if x.1 = t.1 then (x.1, t.2) else x).1 = x.1
  split <;> rfl
theorem put_set {em : List (Str × Int)} {t : Str × Int} (h : t.1 ∈ em.map (·.1)) : putK (em.map kvOf) (Sum.inr t.1) (.int t.2) = (setE em t).map kvOf := by
  unfold putK setE
  rw [if_pos]
  · rw [List.map_map, List.map_map]
    apply List.map_congr_left
    intro x _
    show (if (kvOf x).1 = Sum.inr t.1 then ((kvOf x).1, V.int t.2) else kvOf x) = kvOf (if x.1 = t.1 then (x.1, t.2) else x)
    by_cases h : x.1 = t.1
    · rw [if_pos h, if_pos (by rw [← h]; rfl)]
      rfl
    · rw [if_neg h, if_neg (show ¬ (kvOf x).1 = Sum.inr t.1 from fun z => h (Sum.inr.inj z))]
  · obtain ⟨x, hx, e⟩ := List.mem_map.mp h
    rw [List.any_eq_true]
    exact ⟨kvOf x, List.mem_map.mpr ⟨x, hx, rfl⟩, decide_eq_true (by rw [← e]; rfl)⟩
theorem val_set {z : Str} {x : Int} (y : Str) : ∀ {em : List (Str × Int)}, z ∈ em.map (·.1) → valV ((setE em (z, x)).map kvOf) (Sum.inr y) = if y = z then some (.int x) else valV (em.map kvOf) (Sum.inr y)
  | [], h => by simp at h
  | (k, v) :: em, h => by
    have e1 : (setE ((k, v) :: em) (z, x)).map kvOf = kvOf (if k = z then (k, x) else (k, v)) :: (setE em (z, x)).map kvOf := rfl
    have c1 : ∀ (p : Str × Int) (l : List (Key × V)), valV (kvOf p :: l) (Sum.inr y) = if p.1 = y then some (.int p.2) else valV l (Sum.inr y) := fun p l => by
      unfold valV
      by_cases c : p.1 = y
      · rw [if_pos c, List.find?_cons_of_pos (by simp [kvOf, c])]
        rfl
      · rw [if_neg c, List.find?_cons_of_neg (by simpa [kvOf] using c)]
    rw [e1, c1, List.map_cons, c1]
    by_cases ck : k = z
    · subst ck
      rw [if_pos rfl]
      by_cases cy : y = k
      · subst cy
        rw [if_pos rfl, if_pos rfl]
      · have cy' : ¬ k = y := fun q => cy q.symm
        rw [if_neg cy', if_neg cy, if_neg cy']
        by_cases hm : k ∈ em.map (·.1)
        · rw [val_set y hm, if_neg cy]
        · congr 2
          unfold setE
          rw [List.map_congr_left (g := id) fun p hp => ?_, List.map_id]
          rw [if_neg fun q => hm (List.mem_map.mpr ⟨p, hp, q⟩)]
          rfl
    · rw [if_neg ck]
      have hm : z ∈ em.map (·.1) := by
        rcases List.mem_cons.mp h with q | q
        · exact absurd q.symm ck
        · exact q
      rw [val_set y hm]
      by_cases cy : y = z
      · subst cy
        rw [if_neg ck, if_pos rfl, if_pos rfl]
      · rw [if_neg cy, if_neg cy]
theorem look_set {em : List (Str × Int)} {z : Str} {x : Int} (h : z ∈ em.map (·.1)) : lookE (setE em (z, x)) = putF (lookE em) z x := by
  funext y
  unfold lookE putF
  rw [val_set y h]
  by_cases c : y = z
  · rw [if_pos c, if_pos c]
  · rw [if_neg c, if_neg c]
def spHoldsS : Sp := fun vs H Q _ => ∃ (a d : Addr) (es : List (Str × Int)) (s : Say), vs = [.ref a, .ref d] ∧ Rd H a (.tup (sayV s)) ∧ s.1 ∈ es.map (·.1) ∧ H d = some (.dK (es.map kvOf)) ∧ Q (.bl (holdS (lookE es) s)) H
def spMayGo : Sp := fun vs H Q _ => ∃ (b : Addr) (z w : Str) (lo hi u dn st he to : Int), vs = [.ref b, .int st, .int he, .int to] ∧ Rd H b (.tup [.str z, .int lo, .int hi, .str w, .int u, .int dn]) ∧ Q (.bl (mayGo (lo, hi) w st he to)) H
section
variable {P : Program} {w : World} {K : PySem.W.Frag} {mg : Str → Option Value} {base : Heap}
theorem ok_holdsS {f : Addr} {fd : FuncData} (F : Fun K "holds" "holds" sHolds f fd) : FnOk P w K mg base CX0 1 f fd ["saying", "now"] spHoldsS := by
  refine F.ok scHolds (fun vs H Q E h => ?_) (fun cdv A outer s H vs Q E hr h => ?_)
  · obtain ⟨x, d, es, sd, rfl, _⟩ := h
    rfl
  obtain ⟨p, d, es, y, rfl, hp, hz, hd, k⟩ := h
  have hu := hu_of hr
  refine ⟨_, pss_cons (ps_asg (pv 0) (pg_tup (by rfl) (pgs_cons (pg_name (i := 2) scHolds.nd rfl (.inl rfl)) <| pgs_cons (pg_name (i := 3) scHolds.nd rfl (.inl rfl)) <| pgs_cons (pg_name (i := 4) scHolds.nd rfl (.inl rfl)) pgs_nil))) <|
    pss_cons (ps_if (pt_cmpR op_eq (pv 3) pe_str (nomark _)) (pss_one (ps_ret (pe_cmpR op_ge (pe_dget hu (pv 1) (pv 2) (fun _ _ => rfl)) (pv 4) (nomark _)))) pss_nil) <|
    pss_one (ps_ret (pe_cmpR op_le (pe_dget hu (pv 1) (pv 2) (fun _ _ => rfl)) (pv 4) (nomark _))), ?_⟩
  have dg := look_dg hd hz
  refine ⟨_, rfl, p, _, rfl, (.inl hp), rfl, _, _, rfl, _, _, rfl, _, _, rfl, rfl, _, rfl, rfl, _, rfl, ?_⟩
  rw [dec_least]
  unfold holdS at k
  cases c : leastS y with
  | true =>
    rw [c, if_pos rfl] at k
    exact iteT ⟨_, rfl, _, rfl, d, _, rfl, dg, _, rfl, _, _, rfl, rfl, k⟩
  | false =>
    rw [c, if_neg Bool.false_ne_true] at k
    exact iteF ⟨_, rfl, _, rfl, d, _, rfl, dg, _, rfl, _, _, rfl, rfl, k⟩
theorem ne_str (a b : Str) : (!decide (V.str a = V.str b)) = decide (a ≠ b) := by
  rw [dec_strV, Bool.eq_iff_iff]
  simp
abbrev nMayGo : List Str := ["dial", "start", "here", "to", "name", "low", "high", "way", "up", "down"]
theorem scMayGo : FnScope nMayGo ["dial", "start", "here", "to"] (defScope sMayGo) := ⟨rfl, rfl, rfl, by decide +kernel, rfl, by decide +kernel, by decide +kernel⟩
theorem ok_mayGo {f : Addr} {fd : FuncData} (F : Fun K "may_go" "may_go" sMayGo f fd) : FnOk P w K mg base CX0 1 f fd ["dial", "start", "here", "to"] spMayGo := by
  refine F.ok scMayGo (fun vs H Q E h => ?_) (fun cdv A outer s H vs Q E hr h => ?_)
  · obtain ⟨b, z, w, lo, hi, u, dn, st, he, to, rfl, _⟩ := h
    rfl
  obtain ⟨b, z, w, lo, hi, u, dn, st, he, to, rfl, hb, k⟩ := h
  refine ⟨_, pss_cons (ps_asg (pv 0) (pg_tup (by rfl) (pgs_cons (pg_name (i := 4) scMayGo.nd rfl (.inl rfl)) <| pgs_cons (pg_name (i := 5) scMayGo.nd rfl (.inl rfl)) <| pgs_cons (pg_name (i := 6) scMayGo.nd rfl (.inl rfl)) <| pgs_cons (pg_name (i := 7) scMayGo.nd rfl (.inl rfl)) <| pgs_cons (pg_name (i := 8) scMayGo.nd rfl (.inl rfl)) <| pgs_cons (pg_name (i := 9) scMayGo.nd rfl (.inl rfl)) pgs_nil))) <|
    pss_cons (ps_if (pt_not (pt_chain op_le op_le (pv 5) (pv 3) (pv 6))) (pss_one (ps_ret pe_bl)) pss_nil) <|
    pss_cons (ps_if (pt_cmpR op_gt (pv 3) (pv 2) (nomark _)) (pss_one (ps_ret (pe_and (pe_cmpR op_ge (pv 2) (pv 1) (nomark _)) (pe_one (pe_cmpR op_ne (pv 7) pe_str (nomark _)))))) pss_nil) <|
    pss_one (ps_ret (pe_and (pe_cmpR op_le (pv 2) (pv 1) (nomark _)) (pe_one (pe_cmpR op_ne (pv 7) pe_str (nomark _))))), ?_⟩
  refine ⟨_, rfl, b, _, rfl, .inl hb, rfl, _, _, rfl, _, _, rfl, _, _, rfl, _, _, rfl, _, _, rfl, _, _, rfl, rfl, ?_⟩
  unfold mayGo at k
  refine ⟨_, rfl, _, rfl, _, _, rfl, rfl, _, rfl, ?_⟩
  by_cases c1 : lo ≤ to
  rotate_left
  · rw [show decide ((lo, hi).1 ≤ to) = false from decide_eq_false c1, Bool.false_and, Bool.false_and] at k
    rw [decide_eq_false c1]
    exact iteF ⟨_, rfl, iteT k⟩
  rw [decide_eq_true c1]
  refine iteT ⟨_, rfl, _, _, rfl, rfl, _, rfl, ?_⟩
  by_cases c2 : to ≤ hi
  rotate_left
  · rw [show decide (to ≤ (lo, hi).2) = false from decide_eq_false c2, Bool.and_false, Bool.false_and] at k
    rw [decide_eq_false c2]
    exact iteT k
  rw [show decide ((lo, hi).1 ≤ to) = true from decide_eq_true c1, show decide (to ≤ (lo, hi).2) = true from decide_eq_true c2, Bool.true_and, Bool.true_and] at k
  rw [decide_eq_true c2]
  refine iteF ⟨_, rfl, _, rfl, _, _, rfl, rfl, _, rfl, ?_⟩
  by_cases c3 : he < to
  · rw [if_pos c3] at k
    rw [decide_eq_true c3]
    refine iteT ⟨_, rfl, _, rfl, _, _, rfl, rfl, _, rfl, ?_⟩
    cases c4 : decide (st ≤ he) with
    | false =>
      rw [c4, Bool.false_and] at k
      exact iteF k
    | true =>
      rw [c4, Bool.true_and] at k
      exact iteT ⟨_, rfl, rfl, by rw [ne_str]; exact k⟩
  · rw [if_neg c3] at k
    rw [decide_eq_false c3]
    refine iteF ⟨_, rfl, _, rfl, _, _, rfl, rfl, _, rfl, ?_⟩
    cases c4 : decide (he ≤ st) with
    | false =>
      rw [c4, Bool.false_and] at k
      exact iteF k
    | true =>
      rw [c4, Bool.true_and] at k
      exact iteT ⟨_, rfl, rfl, by rw [ne_str]; exact k⟩
end
end Pk
end
section
set_option maxHeartbeats 2000000
/-! least_heave. -/
namespace Pk
open PySem PySem.Spec PyProof.Rows L2
abbrev sHeave : Stmt := topH 50
def wayOf (ds : List PyData) (z : Str) : Str := match ds.find? (fun d => nameOf d == z) with
  | some (.tuple [_, _, _, .str w, _, _]) => w
  | _ => ""
theorem dial_ofW {H : Hp} {dl : Addr} {ds : List PyData} {z : Str} (D : Dls H dl ds) (hz : z ∈ ds.map nameOf) (hg : ∀ d ∈ ds, DialG d) : ∃ (kvs : List (Key × V)) (b : Addr) (u dn : Int), H dl = some (.dK kvs) ∧ valV kvs (Sum.inr z) = some (.ref b) ∧ Rd H b (.tup [.str z, .int (endsOf ds z).1, .int (endsOf ds z).2, .str (wayOf ds z), .int u, .int dn]) := by
  obtain ⟨kvs, hk, hv⟩ := D
  cases e : ds.find? (fun d => nameOf d == z) with
  | none =>
    exfalso
    obtain ⟨d, hd, rfl⟩ := List.mem_map.mp hz
    have := List.find?_eq_none.mp e d hd
    simp at this
  | some d =>
    have hd := List.mem_of_find?_eq_some e
    have hn : nameOf d = z := by
      have := List.find?_some e
      simpa using this
    obtain ⟨v, h1, h2⟩ := hv d hd
    obtain ⟨b, nm, way, lo, hi', up, dn, eb, hb0, _, _, _, _, ed⟩ := dial_tup h2 (hg d hd)
    rw [hn, eb] at h1
    have ez : z = nm := by rw [← hn, ed]; rfl
    have ee : endsOf ds z = (lo, hi') := by
      unfold endsOf
      rw [e, ed]
      rfl
    have ew : wayOf ds z = way := by
      unfold wayOf
      rw [e, ed]
    rw [ee, ew]
    subst ez
    exact ⟨kvs, b, up, dn, hk, h1, hb0⟩
def spHeave (C : Addr) : Sp := fun vs H Q _ => ∃ (lx nl dl rb sp st sa : Addr) (ds rs : List PyData) (es : List (Str × Int)) (s : Say) (str : Int), vs = [.ref lx, .ref st, .ref sa, .int str] ∧ LS C H lx nl dl rb sp ds rs ∧ H st = some (.dK (es.map kvOf)) ∧ es.map (·.1) = ds.map nameOf ∧ Rd H sa (.tup (sayV s)) ∧ SayH (ds.map nameOf) s ∧ holdS (lookE es) s = false ∧ 0 ≤ str ∧ str ≤ 3 ∧
  (∀ z ∈ ds.map nameOf, (endsOf ds z).1 ≤ lookE es z ∧ lookE es z ≤ (endsOf ds z).2) ∧ (∀ r ∈ rs, rulH (lookE es) (rulOf r) = true) ∧
  (∀ H', Same H H' → (∀ t, ¬ Tgt (ds.map nameOf) (endsOf ds) (wayOf ds) (rs.map rulOf) (lookE es) s str t) → Q .non H') ∧
  ∀ (d : Addr) (es' : List (Str × Int)) (size : Int) (H' : Hp), Same H H' → H d = none → H' d = some (.dK (es'.map kvOf)) → es'.map (·.1) = ds.map nameOf → Pul (ds.map nameOf) (endsOf ds) (wayOf ds) (rs.map rulOf) (lookE es) s str (lookE es') size [] → Q (.ref d) H'
theorem says_but {H H' : Hp} {as : List Addr} {ss : List Say} (h : PySem.Paired (fun a z => Rd H a (.tup (sayV z))) as ss) (f : ∀ (a : Addr) (z : Say), Rd H a (.tup (sayV z)) → Rd H' a (.tup (sayV z))) : PySem.Paired (fun a z => Rd H' a (.tup (sayV z))) as ss := L2.Paired.mapP h fun a z q => f a z q
theorem rul_ok {ns : List Str} {r : PyData} (h : RuleG ns r) : RulOk ns (rulOf r) := by
  rcases rule_is h.rule with ⟨p, q, rfl, h1, h2⟩ | ⟨w, a, b, c, rfl, h1, h2, h3⟩
  · exact ⟨(sayK_of h1).1, (sayK_of h2).1⟩
  · exact ⟨h1, h2, h3⟩
theorem rd_upd {H : Hp} {a q : Addr} {xs : List V} {o o' : HO} (h : Rd H a (.tup xs)) (hq : H q = some o') (n1 : ∀ ys, o' ≠ .tup ys) (n2 : ∀ u v, o' ≠ .frz u v) : Rd (upd H q o) a (.tup xs) := by
  have ne : a ≠ q := fun z => by
    subst z
    rcases h with h | ⟨u, h⟩
    · rw [hq] at h
      exact n1 _ (Option.some.inj h)
    · rw [hq] at h
      exact n2 _ _ (Option.some.inj h)
  rcases h with h | ⟨u, h⟩
  · exact .inl (by rw [upd_ne ne]; exact h)
  · exact .inr ⟨u, by rw [upd_ne ne]; exact h⟩
theorem paired_last {α β : Type} {R : α → β → Prop} {p : β} : ∀ {as : List α} {ss : List β}, PySem.Paired R as (ss ++ [p]) → ∃ as' a, as = as' ++ [a] ∧ PySem.Paired R as' ss ∧ R a p
  | _, [], .cons h .nil => ⟨[], _, rfl, .nil, h⟩
  | _, s :: ss, .cons h t => by
    obtain ⟨as', a, e, h1, h2⟩ := paired_last (ss := ss) t
    subst e
    exact ⟨_ :: as', a, rfl, .cons h h1, h2⟩
theorem paired_app {α β : Type} {R : α → β → Prop} : ∀ {as bs : List α} {ss ts : List β}, PySem.Paired R as ss → PySem.Paired R bs ts → PySem.Paired R (as ++ bs) (ss ++ ts)
  | _, _, _, _, .nil, h => h
  | _, _, _, _, .cons a t, h => .cons a (paired_app t h)
/-- a rule that doesn't speak of the dial gives nothing -/
theorem given_none {e : Str → Int × Int} {ns : List Str} {r : PyData} {p : Say} (hr : RuleG ns r) (hp : SayH ns p) (l1 : (e p.1).1 ≤ p.2.2) (l2 : p.2.2 ≤ (e p.1).2) (ho : ownOf p.1 r = false) : givenR e (rulOf r) p = [] := by
  have fit : fitN e p = false := by
    unfold fitN
    cases leastS p with
    | true =>
      rw [if_pos rfl]
      exact decide_eq_false (by omega)
    | false =>
      rw [if_neg Bool.false_ne_true]
      exact decide_eq_false (by omega)
  rcases rule_is hr.rule with ⟨a, b, rfl, h1, h2⟩ | ⟨w, a, b, c, rfl, h1, h2, h3⟩
  · obtain ⟨_, e1, _⟩ := sayK_of h1
    obtain ⟨_, e2, _⟩ := sayK_of h2
    have ho' : (decide ((sayOf a).1 = p.1) || decide ((sayOf b).1 = p.1)) = false := by
      rw [e1, e2] at ho
      exact ho
    rw [Bool.or_eq_false_iff, decide_eq_false_iff_not, decide_eq_false_iff_not] at ho'
    have dn : ∀ s : Say, ¬ s.1 = p.1 → denyS e p s = false := fun s h => by
      unfold denyS
      rw [fit, Bool.false_or, decide_eq_false (fun q => h q.symm), Bool.false_and]
    show (if denyS e p (sayOf a) = true then [sayOf b] else []) ++ (if denyS e p (sayOf b) = true then [sayOf a] else []) = []
    rw [dn _ ho'.1, dn _ ho'.2]
    rfl
  · have ho' : (decide (a = p.1) || decide (b = p.1)) = false := ho
    rw [Bool.or_eq_false_iff, decide_eq_false_iff_not, decide_eq_false_iff_not] at ho'
    show givenR e (.pair w a b c) p = []
    rw [givenR_pair]
    have n1 : ¬ (p.1 = a ∧ p.2.1 = ("least" : Str)) := fun q => ho'.1 q.1.symm
    have n2 : ¬ (p.1 = b ∧ p.2.1 = ("most" : Str)) := fun q => ho'.2 q.1.symm
    have n3 : p.2.1 = w ∨ ¬ (p.1 = a ∨ p.1 = b) := .inr fun q => q.elim (fun q => ho'.1 q.symm) fun q => ho'.2 q.symm
    rw [if_neg n1, if_neg n2, if_pos n3, ite_self]
theorem abs_pos {ns : List Str} {f : Str → Int} {p : Say} (hp : SayH ns p) (h : holdS f p = false) : 1 ≤ absI (p.2.2 - f p.1) := by
  rcases say_two hp with ⟨z, i, rfl⟩ | ⟨z, i, rfl⟩
  · rw [hold_least, decide_eq_false_iff_not] at h
    show 1 ≤ absI (i - f z)
    unfold absI
    split <;> omega
  · rw [hold_most, decide_eq_false_iff_not] at h
    show 1 ≤ absI (i - f z)
    unfold absI
    split <;> omega
/-- the while loop's own -/
def InvH (ds rs : List PyData) (H : Hp) (lx st sa d q : Addr) (es : List (Str × Int)) (y : Say) (str : Int) (m : Nat) (σ : List (Option V)) (H3 : Hp) : Prop :=
  ∃ (es1 : List (Str × Int)) (size : Int) (as : List Addr) (ss : List Say) (v7 v8 v9 v10 v11 : Option V), m = 161 * (str - size).toNat + ss.length ∧ σ = [some (.ref lx), some (.ref st), some (.ref sa), some (.int str), some (.ref d), some (.int size), some (.ref q), v7, v8, v9, v10, v11] ∧ Same H H3 ∧ H3 d = some (.dK (es1.map kvOf)) ∧ H3 q = some (.lst (as.map V.ref)) ∧ SaysAt H3 as ss ∧ es1.map (·.1) = ds.map nameOf ∧ Pul (ds.map nameOf) (endsOf ds) (wayOf ds) (rs.map rulOf) (lookE es) y str (lookE es1) size ss ∧ (ss.length : Int) ≤ 1 + 160 * size
section
variable {P : Program} {w : World} {K : PySem.W.Frag} {mg : Str → Option Value} {base : Heap}
abbrev nHeave : List Str := ["layout", "start", "saying", "strength", "now", "size", "asked", "pull", "name", "sort", "to", "rule"]
theorem scHeave : FnScope nHeave ["layout", "start", "saying", "strength"] (defScope sHeave) := ⟨rfl, rfl, rfl, by decide +kernel, rfl, by decide +kernel, by decide +kernel⟩
theorem ok_heave {f g1 g2 g3 C : Addr} {fd d1 d2 d3 : FuncData} (F : Fun K "least_heave" "least_heave" sHeave f fd) (T : LayTxt K mg C) (mD : mg "dict" = none) (mA : mg "abs" = none)
    (G1 : FnOk P w K mg base CX0 1 g1 d1 ["saying", "now"] spHoldsS) (b1 : Binds K d1 ["saying", "now"] []) (k1 : PySem.W.keepIn K (.ref g1) = true) (m1 : mg "holds" = some (.ref g1))
    (G2 : FnOk P w K mg base CX0 1 g2 d2 ["dial", "start", "here", "to"] spMayGo) (b2 : Binds K d2 ["dial", "start", "here", "to"] []) (k2 : PySem.W.keepIn K (.ref g2) = true) (m2 : mg "may_go" = some (.ref g2))
    (G3 : FnOk P w K mg base CX0 4 g3 d3 ["layout", "rule", "saying"] (spGiven C)) (b3 : Binds K d3 ["layout", "rule", "saying"] []) (k3 : PySem.W.keepIn K (.ref g3) = true) (m3 : mg "given" = some (.ref g3)) :
    FnOk P w K mg base CX0 5 f fd ["layout", "start", "saying", "strength"] (spHeave C) := by
  refine F.ok scHeave (fun vs H Q E h => ?_) (fun cdv A outer s H vs Q E hr h => ?_)
  · obtain ⟨lx, nl, dl, rb, sp, st, sa, ds, rs, es, s, str, rfl, _⟩ := h
    rfl
  obtain ⟨lx, nl, dl, rb, sp, st, sa, ds, rs, es, y, str, rfl, ls, hst, ek, hsa, hy, hn, st0, st3, spn, rls, kN, kQ⟩ := h
  have hu := hu_of hr
  have hr1 : Room 1 _ := hr.mono (by decide)
  have hr4 : Room 4 _ := hr.mono (by decide)
  refine ⟨_, pss_cons (ps_set (i := 4) scHeave.nd rfl (.inl rfl) (pe_callTy call_dictD (by rfl) mD (by decide +kernel) (pa_cons (pv 1) pa_nil))) <|
    pss_cons (ps_set (i := 5) scHeave.nd rfl (.inl rfl) pe_int) <|
    pss_cons (ps_set (i := 6) scHeave.nd rfl (.inl rfl) (pe_lst (pa_cons (pv 2) pa_nil))) <|
    pss_cons (ps_while PassesOwn.never (pt_truth (pv 6) (fun _ => rfl))
      (pss_cons (ps_set (i := 7) scHeave.nd rfl (.inl rfl) (pe_bm0 PySem.F.plainAttrs_list PySem.F.slot_list_pop PySem.F.type_list_pop mt_pop (pv 6))) <|
       pss_cons (ps_if (pt_val (pe_call G1 hr1 rfl m1 k1 b1 .nil pass0 (pa_cons (pv 7) (pa_cons (pv 4) pa_nil)))) (pss_one ps_continue) pss_nil) <|
       pss_cons (ps_asg (pv 7) (pg_tup (by rfl) (pgs_cons (pg_name (i := 8) scHeave.nd rfl (.inl rfl)) <| pgs_cons (pg_name (i := 9) scHeave.nd rfl (.inl rfl)) <| pgs_cons (pg_name (i := 10) scHeave.nd rfl (.inl rfl)) pgs_nil))) <|
       pss_cons (ps_if (pt_not (pt_val (pe_call G2 hr1 rfl m2 k2 b2 .nil pass0 (pa_cons (pe_dget hu (pe_fld (pv 0) rfl) (pv 8) (fun _ _ => rfl)) (pa_cons (pe_dget hu (pv 1) (pv 8) (fun _ _ => rfl)) (pa_cons (pe_dget hu (pv 4) (pv 8) (fun _ _ => rfl)) (pa_cons (pv 10) pa_nil))))))) (pss_one (ps_ret pe_non)) pss_nil) <|
       pss_cons (ps_aug (i := 5) scHeave.nd rfl (.inl rfl) (pe_callB call_abs (by rfl) mA (by decide +kernel) (pa_cons (pe_op op_sub (pv 10) (pe_dget hu (pv 4) (pv 8) (fun _ _ => rfl))) pa_nil)) ip_add) <|
       pss_cons (ps_if (pt_cmpR op_gt (pv 5) (pv 3) (nomark _)) (pss_one (ps_ret pe_non)) pss_nil) <|
       pss_cons (ps_dput hu (pv 4) (pv 8) (pv 10) rfl) <|
       pss_one (ps_for PassesOwn.never rfl (pi_list (pe_dget hu (pe_fld (pv 0) rfl) (pv 8) (fun _ _ => rfl))) (pg_name (i := 11) scHeave.nd rfl (Or.inl rfl))
         (pss_one (ps_expr (pe_bm PySem.F.plainAttrs_list PySem.F.slot_list_extend PySem.F.type_list_extend mt_extend (pv 6) (pa_cons (pe_call G3 hr4 rfl m3 k3 b3 .nil pass0 (pa_cons (pv 0) (pa_cons (pv 11) (pa_cons (pv 7) pa_nil)))) pa_nil))))))) <|
    pss_one (ps_ret (pv 4)), ?_⟩
  have szl := sizeLine_eq
  have okR : ∀ R ∈ rs.map rulOf, RulOk (ds.map nameOf) R ∧ RulD R := fun R hR => by
    obtain ⟨r, hr, rfl⟩ := List.mem_map.mp hR
    exact ⟨rul_ok (ls.g.rules r hr), rul_ne (ls.g.rules r hr)⟩
  refine ⟨_, rfl, st, _, rfl, .inl hst, fun d nd => ?_⟩
  have sD := sameNew nd (.dK (es.map kvOf))
  have hD := upd_same (H := H) (a := d) (o := .dK (es.map kvOf))
  generalize upd H d (.dK (es.map kvOf)) = H1 at sD hD ⊢
  refine ⟨_, rfl, by show 1 ≤ sizeLine; decide, fun q nq => ?_⟩
  have sQ := sameNew nq (.lst [.ref sa])
  have hQ : upd H1 q (.lst [.ref sa]) q = some (.lst ([sa].map V.ref)) := upd_same
  generalize upd H1 q (.lst [.ref sa]) = H2 at sQ hQ ⊢
  have nqH : H q = none := sD.free nq
  have s2 : Same H H2 := sD.trans sQ
  refine ⟨InvH ds rs H lx st sa d q es y str, ⟨_, es, 0, [sa], [y], none, none, none, none, none, rfl, rfl, s2, sQ _ _ hD, hQ, .cons (hsa.map (s2 _)) .nil, ek, Pul.init spn (fun R hR => by
    obtain ⟨r, hr, rfl⟩ := List.mem_map.mp hR
    exact rls r hr) hy st0, by simp⟩, ?_⟩
  rintro m σ H3 ⟨es1, size, as, ss, v7, v8, v9, v10, v11, rfl, rfl, s3, hd3, hq3, sy3, ek1, pul, len⟩
  have la := PySem.Paired.length sy3
  refine ⟨_, rfl, _, .inl ⟨_, SqL.of hq3, rfl⟩, ?_⟩
  rcases List.eq_nil_or_concat ss with e0 | ⟨ss', p, e0⟩
  · subst e0
    have e1 : as = [] := List.eq_nil_of_length_eq_zero la
    subst e1
    exact iteF ⟨_, rfl, kQ d es1 size H3 s3 nd hd3 ek1 pul⟩
  rw [List.concat_eq_append] at e0
  subst e0
  obtain ⟨as', a, e1, sy', ha⟩ := paired_last sy3
  subst e1
  have tr : (!((as' ++ [a]).map V.ref).isEmpty) = true := by simp
  rw [tr]
  refine iteT ⟨fun σ' H' => ∃ m', m' < _ ∧ InvH ds rs H lx st sa d q es y str m' σ' H', fun σ' H' h => h, ?_⟩
  have hps := pul.says p (List.mem_append_right _ (List.mem_singleton.mpr rfl))
  refine ⟨_, rfl, .inl ⟨rfl, _, SqL.of hq3⟩, q, _, .ref a, rfl, rfl, hq3, by simp, ?_⟩
  have dl3 : ((as' ++ [a]).map V.ref).dropLast = as'.map V.ref := by simp
  rw [dl3]
  have hq4 : upd H3 q (.lst (as'.map V.ref)) q = some (.lst (as'.map V.ref)) := upd_same
  have dq : d ≠ q := ne_of hd3 hq3 (by intro z; cases z)
  have hd4 : upd H3 q (.lst (as'.map V.ref)) d = some (.dK (es1.map kvOf)) := by rw [upd_ne dq]; exact hd3
  have sy4 := says_but sy' fun b z h => rd_upd (o := .lst (as'.map V.ref)) h hq3 (by intro ys z; cases z) (by intro u v z; cases z)
  have ha4 := rd_upd (o := .lst (as'.map V.ref)) ha hq3 (by intro ys z; cases z) (by intro u v z; cases z)
  have s4 : Same H (upd H3 q (.lst (as'.map V.ref))) := mutN s3 nqH
  generalize upd H3 q (.lst (as'.map V.ref)) = H4 at hq4 hd4 sy4 ha4 s4 ⊢
  have kp1 : p.1 ∈ es1.map (·.1) := by rw [ek1]; exact hps.nm
  have kp0 : p.1 ∈ es.map (·.1) := by rw [ek]; exact hps.nm
  refine ⟨_, rfl, _, rfl, a, d, es1, p, rfl, ha4, kp1, hd4, _, rfl, ?_⟩
  rw [List.length_append] at len
  have lp1 : [p].length = 1 := rfl
  cases ch : holdS (lookE es1) p with
  | true =>
    exact iteT ⟨_, by rw [List.length_append]; omega, es1, size, as', ss', _, _, _, _, _, rfl, rfl, s4, hd4, hq4, sy4, ek1, pul.pop hy hn ch, by omega⟩
  | false =>
  refine iteF ⟨_, rfl, a, _, rfl, .inl ha4, rfl, _, _, rfl, _, _, rfl, _, _, rfl, rfl, ?_⟩
  have ls4 := ls.same s4
  obtain ⟨dx, fs, l1, l2, l3, l4, l5, l6⟩ := ls4.L.ob
  obtain ⟨kvs, b, u, dn, hk, hv, hb⟩ := dial_ofW ls4.L.dl hps.nm ls4.g.dials
  refine ⟨_, rfl, lx, C, dx, fs, _, rfl, l1, T.cl, T.nD, l3, _, rfl, dl, _, rfl, .inl ⟨kvs, Sum.inr p.1, .inl hk, rfl, hv.symm⟩, ?_⟩
  refine ⟨_, rfl, _, rfl, st, _, rfl, look_dg (s4 _ _ hst) kp0, _, rfl, _, rfl, d, _, rfl, look_dg hd4 kp1, _, rfl, b, p.1, wayOf ds p.1, _, _, u, dn, _, _, _, rfl, hb, _, rfl, ?_⟩
  cases cm : mayGo ((endsOf ds p.1).1, (endsOf ds p.1).2) (wayOf ds p.1) (lookE es p.1) (lookE es1 p.1) p.2.2 with
  | false => exact iteT (kN H4 s4 (pul.fail ls.g.nd ch (.inl cm)))
  | true =>
  refine iteF ?_
  refine ⟨_, rfl, _, rfl, _, rfl, _, rfl, d, _, rfl, look_dg hd4 kp1, _, _, rfl, rfl, _, rfl, ?_⟩
  refine ⟨_, _, rfl, rfl, ?_⟩
  refine ⟨_, rfl, _, rfl, _, _, rfl, rfl, _, rfl, ?_⟩
  by_cases cs : str < size + absI (p.2.2 - lookE es1 p.1)
  · rw [show decide (str < size + (if p.2.2 - lookE es1 p.1 < 0 then -(p.2.2 - lookE es1 p.1) else p.2.2 - lookE es1 p.1)) = true from decide_eq_true cs]
    exact iteT (kN H4 s4 (pul.fail ls.g.nd ch (.inr cs)))
  rw [show decide (str < size + (if p.2.2 - lookE es1 p.1 < 0 then -(p.2.2 - lookE es1 p.1) else p.2.2 - lookE es1 p.1)) = false from decide_eq_false cs]
  refine iteF ?_
  have l12 : es1.length ≤ 12 := by
    have q1 := congrArg List.length ek1
    rw [List.length_map, List.length_map] at q1
    have := ls.g.d2
    omega
  refine ⟨_, rfl, _, rfl, _, rfl, d, _, rfl, DPut.k (k := Sum.inr p.1) hd4 (by rw [List.length_map]; exact small1000 (by omega)), ?_⟩
  rw [show putK (es1.map kvOf) (Sum.inr p.1) (.int p.2.2) = (setE es1 (p.1, p.2.2)).map kvOf from put_set (t := (p.1, p.2.2)) kp1]
  have dqn : q ≠ d := fun z => dq z.symm
  have hd5 : upd H4 d (.dK ((setE es1 (p.1, p.2.2)).map kvOf)) d = some (.dK ((setE es1 (p.1, p.2.2)).map kvOf)) := upd_same
  have hq5 : upd H4 d (.dK ((setE es1 (p.1, p.2.2)).map kvOf)) q = some (.lst (as'.map V.ref)) := by rw [upd_ne dqn]; exact hq4
  have sy5 := says_but sy4 fun b z h => rd_upd (o := .dK ((setE es1 (p.1, p.2.2)).map kvOf)) h hd4 (by intro ys z; cases z) (by intro u v z; cases z)
  have ha5 := rd_upd (o := .dK ((setE es1 (p.1, p.2.2)).map kvOf)) ha4 hd4 (by intro ys z; cases z) (by intro u v z; cases z)
  have s5 : Same H (upd H4 d (.dK ((setE es1 (p.1, p.2.2)).map kvOf))) := mutN s4 nd
  generalize upd H4 d (.dK ((setE es1 (p.1, p.2.2)).map kvOf)) = H5 at hq5 hd5 sy5 ha5 s5 ⊢
  have ls5 := ls.same s5
  obtain ⟨⟨l1', l2'⟩, _⟩ := may_facts (p := p) (e := endsOf ds) (wy := wayOf ds) (f0 := lookE es) (f := lookE es1) cm
  obtain ⟨dx, fs, l1, l2, l3, l4, l5, l6⟩ := ls.L.ob
  obtain ⟨kws, hsp, hspn⟩ := ls.L.sp
  obtain ⟨l, ys, qs, v1, v2, v3, v4, v5, v6⟩ := hspn p.1 hps.nm
  have r40 := ls.g.r2
  have lyq := v4.length
  refine ⟨_, rfl, lx, C, dx, fs, _, rfl, s5 _ _ l1, T.cl, T.nS, l5, _, rfl, sp, _, rfl, .inl ⟨kws, Sum.inr p.1, .inl (s5 _ _ hsp), rfl, v1.symm⟩, l, rfl, ⟨_, SqL.of (s5 _ _ v2)⟩, for_list (K := K) (a := l) (xs := ys) (fun i σ H6 => ∃ (as2 : List Addr) (gs : List Say) (u11 : Option V), σ = [some (.ref lx), some (.ref st), some (.ref sa), some (.int str), some (.ref d), some (.int (size + absI (p.2.2 - lookE es1 p.1))), some (.ref q), some (.ref a), some (.str p.1), some (.str p.2.1), some (.int p.2.2), u11] ∧ Same H H6 ∧ H6 d = some (.dK ((setE es1 (p.1, p.2.2)).map kvOf)) ∧ H6 q = some (.lst ((as' ++ as2).map V.ref)) ∧ SaysAt H6 (as' ++ as2) (ss' ++ gs) ∧ Rd H6 a (.tup (sayV p)) ∧ gs.length ≤ 2 * i ∧ (∀ g ∈ gs, ∃ R ∈ rs.map rulOf, g ∈ givenR (endsOf ds) R p) ∧ ∀ r ∈ qs.take i, ∀ g ∈ givenR (endsOf ds) (rulOf r) p, g ∈ gs)
    ⟨[], [], v11, by rfl, s5, hd5, by rw [List.append_nil]; exact hq5, by rw [List.append_nil, List.append_nil]; exact sy5, ha5, by simp, fun g h => absurd h (by simp), fun r h => absurd h (by simp)⟩ (fun i σ H6 _ ⟨_, _, _, _, s6, _⟩ => SqL.of (s6 _ _ v2)) ?_ ?_⟩
  · rintro i x σ H6 hx ⟨as2, gs, u11, rfl, s6, hd6, hq6, sy6, ha6, lg, g1, g2⟩
    obtain ⟨r, hr', tr'⟩ := v4.get hx
    have hil : i < ys.length := (List.getElem?_eq_some_iff.mp hx).1
    have hrm := v5 r (List.mem_of_getElem? hr')
    obtain ⟨ra, rfl, rat, rok⟩ := rul_of tr' (ls.g.rules r hrm)
    have lsy := PySem.Paired.length sy6
    rw [List.length_append, List.length_append] at lsy
    have lge := given_len (endsOf ds) (rulOf r) p
    have hszz : size ≤ 3 := by have := pul.le; omega
    refine ⟨_, rfl, .inl ⟨rfl, _, SqL.of hq6⟩, _, rfl, _, rfl, _, rfl, lx, nl, dl, rb, sp, ra, a, ds, rs, p, rulOf r, rfl, ls.same s6, rat.same s6, rok, ha6, hps, fun l' os H7 s7 nl' hl' so => ?_⟩
    have lso := PySem.Paired.length so
    have hq7 := s7 _ _ hq6
    refine ⟨q, l', _, _, rfl, rfl, hq7, hl', Nat.le_of_lt (small1000 (by rw [List.length_map, List.length_map, List.length_append]; omega)), ?_⟩
    have dq7 : d ≠ q := dq
    refine ⟨as2 ++ os, gs ++ givenR (endsOf ds) (rulOf r) p, _, rfl, mutN (s6.trans s7) nqH, by rw [upd_ne dq7]; exact s7 _ _ hd6, by rw [upd_same, ← List.append_assoc, List.map_append (l₁ := as' ++ as2)], ?_, rd_upd (ha6.map (s7 _)) hq7 (by intro ys z; cases z) (by intro u v z; cases z), by rw [List.length_append]; omega, fun g hg => ?_, fun r2 hr2 g hg => ?_⟩
    · rw [← List.append_assoc, ← List.append_assoc]
      exact paired_app (says_but sy6 fun b z h => rd_upd (h.map (s7 _)) hq7 (by intro ys z; cases z) (by intro u v z; cases z)) (says_but so fun b z h => rd_upd h hq7 (by intro ys z; cases z) (by intro u v z; cases z))
    · rcases List.mem_append.mp hg with hg | hg
      · exact g1 g hg
      · exact ⟨rulOf r, List.mem_map.mpr ⟨r, hrm, rfl⟩, hg⟩
    · rw [take_more hr'] at hr2
      rcases List.mem_append.mp hr2 with hr2 | hr2
      · exact List.mem_append_left _ (g2 r2 hr2 g hg)
      · rw [List.mem_singleton.mp hr2] at hg
        exact List.mem_append_right _ hg
  · rintro σ H6 ⟨as2, gs, u11, rfl, s6, hd6, hq6, sy6, ha6, lg, g1, g2⟩
    have pos := abs_pos hps ch
    have hnn : 0 ≤ size := by rw [pul.far]; exact dist_nn _ _ _
    have g2' : ∀ R ∈ rs.map rulOf, ∀ g ∈ givenR (endsOf ds) R p, g ∈ gs := fun R hR g hg => by
      obtain ⟨r, hr, rfl⟩ := List.mem_map.mp hR
      cases ow : ownOf p.1 r with
      | true =>
        refine g2 r ?_ g hg
        rw [lyq, List.take_length]
        exact v6 r hr ow
      | false =>
        rw [given_none (ls.g.rules r hr) hps l1' l2' ow] at hg
        exact absurd hg (by simp)
    have g3 : ∀ g ∈ gs, SayH (ds.map nameOf) g := fun g hg => by
      obtain ⟨R, hR, h⟩ := g1 g hg
      exact given_ok (okR R hR).1 hps g h
    have mv := pul.move ls.g.nd okR ch cm (by omega) g1 g2' g3
    rw [← look_set kp1] at mv
    have hle : size + absI (p.2.2 - lookE es1 p.1) ≤ str := by omega
    refine ⟨_, ?_, setE es1 (p.1, p.2.2), size + absI (p.2.2 - lookE es1 p.1), as' ++ as2, ss' ++ gs, _, _, _, _, _, rfl, rfl, s6, hd6, hq6, sy6, (set_keys _ _).trans ek1, mv, ?_⟩
    · rw [List.length_append, List.length_append]
      omega
    · rw [List.length_append]
      omega
end
end Pk
end
section
set_option maxHeartbeats 1000000
/-! kept of a number, NoWalk's making, check_standing, numbers_of. -/
namespace Pk
open PySem PySem.Spec PyProof.Rows L2
abbrev sKept : Stmt := topH 3
abbrev sCheckS : Stmt := topH 42
abbrev sNumsOf : Stmt := inClass (topH 30) 2
def spKeptI : Sp := fun vs H Q _ => ∃ i : Int, vs = [.int i] ∧ Q (.int i) H
def spNWI (C : Addr) : Sp := fun vs H Q _ => ∃ (a : Addr) (i : Int), vs = [.ref a, .int i] ∧ H a = some (exo a C none) ∧ ∀ dx, H dx = none → dx ≠ a → Q .non (upd (upd H dx (exd dx [("nth", .int i)])) a (exo a C (some dx)))
def spCheckS (Ps : List Addr) : Sp := fun vs H Q _ => ∃ (h : Addr) (x : V) (ds rs : List PyData) (d : PyData), vs = [.ref h, x] ∧ HouseAt H h ds rs ∧ Tr H x d ∧ Tabs Ps H ∧ standD ds rs d = true ∧ ∀ H', GrS Ps H H' → Q .non H'
def spNumsOf (C : Addr) : Sp := fun vs H Q _ => ∃ (x nl dl rb sp n : Addr) (ds rs : List PyData) (em : List (Str × Int)), vs = [.ref x, .ref n] ∧ LayF C H x nl dl rb sp ds rs ∧ HouseG ds rs ∧ H n = some (.dK (em.map kvOf)) ∧ em.map (·.1) = ds.map nameOf ∧ ∀ (t : Addr) (H' : Hp), Same H H' → H' t = some (.tup ((ds.map fun d => lookE em (nameOf d)).map V.int)) → Q (.ref t) H'
section
variable {P : Program} {w : World} {K : PySem.W.Frag} {mg : Str → Option Value} {base : Heap} {Ps : List Addr}
theorem scKept : FnScope ["thing", "part", "key"] ["thing"] (defScope sKept) := ⟨rfl, rfl, rfl, by decide +kernel, rfl, by decide +kernel, by decide +kernel⟩
theorem ok_keptI {f : Addr} {fd : FuncData} (F : Fun K "kept" "kept" sKept f fd) (B : BltH mg) (mD : mg "dict" = none) : FnOk P w K mg base CX0 1 f fd ["thing"] spKeptI := by
  refine F.ok scKept (fun vs H Q E h => ?_) (fun cdv A outer s H vs Q E hr h => ?_)
  · obtain ⟨i, rfl, _⟩ := h
    rfl
  obtain ⟨i, rfl, k⟩ := h
  refine ⟨_, pss_cons (ps_if (pt_val (pe_callB call_isi (by rfl) B.isinstance (by decide +kernel) (pa_cons (pv 0) (pa_cons (pe_bltn (v := .ty "list") (by rfl) B.list (by decide +kernel) rfl) pa_nil)))) (pss_one ps_never) pss_nil) <|
    pss_cons (ps_if (pt_val (pe_callB call_isi (by rfl) B.isinstance (by decide +kernel) (pa_cons (pv 0) (pa_cons (pe_bltn (v := .ty "tuple") (by rfl) B.tuple (by decide +kernel) rfl) pa_nil)))) (pss_one ps_never) pss_nil) <|
    pss_cons (ps_if (pt_val (pe_callB call_isi (by rfl) B.isinstance (by decide +kernel) (pa_cons (pv 0) (pa_cons (pe_bltn (v := .ty "dict") (by rfl) mD (by decide +kernel) rfl) pa_nil)))) (pss_one ps_never) pss_nil) <|
    pss_one (ps_ret (pv 0)), ?_⟩
  refine ⟨_, rfl, _, .ty "list", _, _, _, rfl, .ty _, .base (.int i), kit_ty (show kitB "int" "list" = some false by decide +kernel), _, rfl, iteF ?_⟩
  refine ⟨_, rfl, _, .ty "tuple", _, _, _, rfl, .ty _, .base (.int i), kit_ty (show kitB "int" "tuple" = some false by decide +kernel), _, rfl, iteF ?_⟩
  refine ⟨_, rfl, _, .ty "dict", _, _, _, rfl, .ty _, .base (.int i), kit_ty (show kitB "int" "dict" = some false by decide +kernel), _, rfl, iteF ?_⟩
  exact ⟨_, rfl, k⟩
theorem scCheckS : FnScope ["house", "standing"] ["house", "standing"] (defScope sCheckS) := ⟨rfl, rfl, rfl, by decide +kernel, rfl, by decide +kernel, by decide +kernel⟩
theorem ok_checkS {f g : Addr} {fd gd : FuncData} (F : Fun K "check_standing" "check_standing" sCheckS f fd) (G : FnOk P w K mg base CX0 5 g gd ["house", "thing"] (spStands Ps)) (bG : Binds K gd ["house", "thing"] []) (kG : PySem.W.keepIn K (.ref g) = true) (mG : mg "stands" = some (.ref g)) :
    FnOk P w K mg base CX0 6 f fd ["house", "standing"] (spCheckS Ps) := by
  refine F.ok scCheckS (fun vs H Q E h => ?_) (fun cdv A outer s H vs Q E hr h => ?_)
  · obtain ⟨h, x, ds, rs, d, rfl, _⟩ := h
    rfl
  obtain ⟨h, x, ds, rs, d, rfl, ha, td, tb, hs, k⟩ := h
  refine ⟨_, pss_one (ps_if (pt_not (pt_val (pe_call G hr rfl mG kG bG .nil pass0 (pa_cons (pv 0) (pa_cons (pv 1) pa_nil))))) (pss_one ps_never) pss_nil), ?_⟩
  refine ⟨_, rfl, _, rfl, h, x, ds, rs, d, rfl, ha, td, tb, fun H1 g1 => ⟨_, rfl, ?_⟩⟩
  rw [hs]
  exact iteF (k H1 g1)
theorem scNumsOf : FnScope ["self", "now", "name"] ["self", "now"] (defScope sNumsOf) := ⟨rfl, rfl, rfl, by decide +kernel, rfl, by decide +kernel, by decide +kernel⟩
theorem ok_numsOf {f C : Addr} {fd : FuncData} (F : Fun K "numbers_of" "Layout.numbers_of" sNumsOf f fd) (T : LayTxt K mg C) (mT : mg "tuple" = none) : FnOk P w K mg base CX0 1 f fd ["self", "now"] (spNumsOf C) := by
  refine F.ok scNumsOf (fun vs H Q E h => ?_) (fun cdv A outer s H vs Q E hr h => ?_)
  · obtain ⟨x, nl, dl, rb, sp, n, ds, rs, em, rfl, _⟩ := h
    rfl
  obtain ⟨x, nl, dl, rb, sp, n, ds, rs, em, rfl, L, hg, hn, ek, k⟩ := h
  have hu := hu_of hr
  refine ⟨_, pss_one (ps_ret (pe_callTy call_tuple_of (by rfl) mT (by decide +kernel) (pa_cons (pe_lc (own := [("name", 2)]) (g := gName 2) (by rfl) scNumsOf.nd (pi_list (pe_fld (pv 0) rfl)) (blkOk_by (N := ["self", "now", "name"]) (sc := defScope sNumsOf) (by decide +kernel)) (fun _ _ _ _ _ => pg_name (i := 2) scNumsOf.nd rfl (Or.inl rfl)) (fun _ _ _ _ _ => pts_nil) (fun _ _ _ _ _ => pe_dget hu (pv 1) (pv 2) (fun _ _ => rfl))) pa_nil))), ?_⟩
  obtain ⟨⟨dx, fs, hx, f1, f2, f3, f4, f5, f6⟩, hnm, hdl, hru, hsp⟩ := L
  have d2 := hg.d2
  refine ⟨_, rfl, x, C, dx, fs, _, rfl, hx, T.cl, T.nN, f1, nl, rfl, ⟨_, SqL.of hnm⟩, fun D hD => lc_list (K := K) (a := nl) (xs := (ds.map nameOf).map V.str) (fun i H1 => H1 D = some (.lst (((ds.take i).map fun d => lookE em (nameOf d)).map V.int)) ∧ Same H H1)
    ⟨upd_same, sameNew hD _⟩ (fun i H1 _ ⟨_, s1⟩ => SqL.of (s1 _ _ hnm)) ?_ ?_⟩
  · rintro i y H1 hy ⟨e1, s1⟩
    rw [List.getElem?_map, List.getElem?_map] at hy
    cases hd : ds[i]? with
    | none =>
      rw [hd] at hy
      cases hy
    | some d =>
    rw [hd] at hy
    cases hy
    have il : i < ds.length := (List.getElem?_eq_some_iff.mp hd).1
    refine ⟨rfl, _, rfl, _, rfl, n, _, rfl, look_dg (s1 _ _ hn) (by rw [ek]; exact List.mem_map.mpr ⟨d, List.mem_of_getElem? hd, rfl⟩), _, e1, small1000 (by rw [List.length_map, List.length_map, List.length_take]; omega), ?_, fun c o e => ?_⟩
    · rw [upd_same, take_more hd, List.map_append, List.map_append]
      rfl
    · rw [upd_ne (ne_of_none e hD)]
      exact s1 _ _ e
  · rintro H1 ⟨e1, s1⟩
    rw [List.length_map, List.length_map, List.take_length] at e1
    exact ⟨D, _, rfl, .inl ⟨SqL.of e1, fun l hl => k l _ (s1.trans (sameNew hl _)) upd_same⟩⟩
end
end Pk
end
section
set_option maxHeartbeats 1000000
/-! Numbers only: standings, steps between them. -/
namespace Pk
open PySem PySem.Spec PyProof.Rows L2
abbrev emN (ds : List PyData) (is : List Int) : List (Str × Int) := (ds.map nameOf).zip is
def numN (ds : List PyData) (em : List (Str × Int)) : List Int := ds.map fun d => lookE em (nameOf d)
/-- the number of each name -/
def fOf (ds : List PyData) (is : List Int) : Str → Int := lookE (emN ds is)
structure GoodN (ds rs : List PyData) (is : List Int) : Prop where
  len : is.length = ds.length
  span : ∀ z ∈ ds.map nameOf, (endsOf ds z).1 ≤ fOf ds is z ∧ fOf ds is z ≤ (endsOf ds z).2
  rule : ∀ r ∈ rs, rulH (fOf ds is) (rulOf r) = true
def StepN (ds : List PyData) (str : Int) (is js : List Int) : Prop := (∀ z ∈ ds.map nameOf, goesI (wayOf ds z) (fOf ds is z) (fOf ds js z)) ∧ distI (ds.map nameOf) (fOf ds is) (fOf ds js) ≤ str
def BtwN (ds : List PyData) (is us js : List Int) : Prop := ∀ z ∈ ds.map nameOf, btw (fOf ds is z) (fOf ds us z) (fOf ds js z)
def distN (ds : List PyData) (is js : List Int) : Int := distI (ds.map nameOf) (fOf ds is) (fOf ds js)
theorem emN_keys {ds : List PyData} {is : List Int} (h : is.length = ds.length) : (emN ds is).map (·.1) = ds.map nameOf := zip_keys (by rw [List.length_map]; exact h.symm)
/-- the numbers by the names, as names and numbers again -/
theorem em_numN : ∀ {ds : List PyData} {em : List (Str × Int)}, (ds.map nameOf).Nodup → em.map (·.1) = ds.map nameOf → emN ds (numN ds em) = em := by
  intro ds em nd ek
  have key : ∀ (l : List (Str × Int)) (ns : List Str) (g : Str → Int), l.map (·.1) = ns → (∀ x ∈ l, g x.1 = x.2) → ns.zip (ns.map g) = l := by
    intro l
    induction l with
    | nil => intro ns g h _; subst h; rfl
    | cons x l ih =>
      intro ns g h hg
      subst h
      rw [List.map_cons, List.map_cons, List.zip_cons_cons, ih _ g rfl fun y hy => hg y (List.mem_cons_of_mem _ hy), hg x List.mem_cons_self]
  have look : ∀ x ∈ em, lookE em x.1 = x.2 := by
    have nd' : (em.map (·.1)).Nodup := by rw [ek]; exact nd
    clear ek
    intro x hx
    obtain ⟨i, hi, ei⟩ := val_kv (es := em) (z := x.1) (List.mem_map.mpr ⟨x, hx, rfl⟩)
    have e : lookE em x.1 = i := by
      unfold lookE
      rw [ei]
    rw [e]
    have uniq : ∀ {l : List (Str × Int)} {z : Str} {a b : Int}, (l.map (·.1)).Nodup → (z, a) ∈ l → (z, b) ∈ l → a = b := by
      intro l
      induction l with
      | nil => intro z a b _ h; exact absurd h (by simp)
      | cons y l ih =>
        intro z a b nd h1 h2
        rw [List.map_cons, List.nodup_cons] at nd
        rcases List.mem_cons.mp h1 with h1 | h1
        · rcases List.mem_cons.mp h2 with h2 | h2
          · rw [← h1] at h2
            cases h2
            rfl
          · exact absurd (List.mem_map.mpr ⟨_, h2, rfl⟩) (by rw [← h1] at nd; exact nd.1)
        · rcases List.mem_cons.mp h2 with h2 | h2
          · exact absurd (List.mem_map.mpr ⟨_, h1, rfl⟩) (by rw [← h2] at nd; exact nd.1)
          · exact ih nd.2 h1 h2
    exact uniq nd' hi hx
  have q := key em (ds.map nameOf) (lookE em) ek look
  rw [List.map_map] at q
  exact q
theorem fOf_num {ds : List PyData} {em : List (Str × Int)} (nd : (ds.map nameOf).Nodup) (ek : em.map (·.1) = ds.map nameOf) : fOf ds (numN ds em) = lookE em := by
  unfold fOf
  rw [em_numN nd ek]
theorem numN_len (ds : List PyData) (em : List (Str × Int)) : (numN ds em).length = ds.length := by
  unfold numN
  rw [List.length_map]
/-- what a heave is that was pulled to its end -/
theorem Pul.good {ds rs : List PyData} {is : List Int} {s : Say} {str size : Int} {em : List (Str × Int)} (nd : (ds.map nameOf).Nodup) (ek : em.map (·.1) = ds.map nameOf) (h : Pul (ds.map nameOf) (endsOf ds) (wayOf ds) (rs.map rulOf) (fOf ds is) s str (lookE em) size []) :
    GoodN ds rs (numN ds em) ∧ StepN ds str is (numN ds em) ∧ 1 ≤ distN ds is (numN ds em) ∧ ∀ js, GoodN ds rs js → StepN ds str is js → holdS (fOf ds js) s = true → BtwN ds is (numN ds em) js := by
  have ef := fOf_num nd ek
  refine ⟨⟨numN_len _ _, by rw [ef]; exact h.span, fun r hr => by rw [ef]; exact h.done.1 _ (List.mem_map.mpr ⟨r, hr, rfl⟩)⟩, ⟨by rw [ef]; exact h.goes, by rw [ef, ← h.far]; exact h.le⟩, by unfold distN; rw [ef, ← h.far]; exact h.done.2, fun js g st hs => ?_⟩
  unfold BtwN
  rw [ef]
  refine (h.tgt (fOf ds js) ⟨g.span, fun R hR => ?_, hs, st.1, st.2⟩).2
  obtain ⟨r, hr, rfl⟩ := List.mem_map.mp hR
  exact g.rule r hr
/-- a step to another standing turns some dial: the first pull towards it -/
theorem first_pull {ds : List PyData} {is js : List Int} (h : 1 ≤ distN ds is js) : ∃ z ∈ ds.map nameOf, fOf ds is z ≠ fOf ds js z := by
  apply Classical.byContradiction
  intro n
  have all : ∀ z ∈ ds.map nameOf, fOf ds is z = fOf ds js z := fun z hz => Classical.byContradiction fun q => n ⟨z, hz, q⟩
  have e : distI (ds.map nameOf) (fOf ds is) (fOf ds js) = distI (ds.map nameOf) (fOf ds is) (fOf ds is) := dist_ext fun z hz => ⟨rfl, (all z hz).symm⟩
  unfold distN at h
  rw [e, dist_self] at h
  omega
end Pk
end
section
set_option maxHeartbeats 2000000
/-! next_standings. -/
namespace Pk
open PySem PySem.Spec PyProof.Rows L2
abbrev sNext : Stmt := topH 54
def NumAt (H : Hp) (a : Addr) (is : List Int) : Prop := H a = some (.tup (is.map V.int))
def spNext (C : Addr) : Sp := fun vs H Q _ => ∃ (lx nl dl rb sp t : Addr) (ds rs : List PyData) (is : List Int) (str : Int), vs = [.ref lx, .ref t, .int str] ∧ LS C H lx nl dl rb sp ds rs ∧ H t = some (.tup (is.map V.int)) ∧ GoodN ds rs is ∧ 0 ≤ str ∧ str ≤ 3 ∧
  ∀ (l : Addr) (as : List Addr) (iss : List (List Int)) (H' : Hp), Same H H' → H l = none → H' l = some (.lst (as.map V.ref)) → PySem.Paired (NumAt H') as iss → iss.length ≤ 2 * ds.length → (∀ us ∈ iss, GoodN ds rs us ∧ StepN ds str is us) → (∀ js, GoodN ds rs js → StepN ds str is js → 1 ≤ distN ds is js → ∃ us ∈ iss, BtwN ds is us js ∧ 1 ≤ distN ds is us) → Q (.ref l) H'
section
variable {P : Program} {w : World} {K : PySem.W.Frag} {mg : Str → Option Value} {base : Heap}
abbrev nNext : List Str := ["layout", "numbers", "strength", "now", "told", "name", "saying", "then"]
theorem scNext : FnScope nNext ["layout", "numbers", "strength"] (defScope sNext) := ⟨rfl, rfl, rfl, by decide +kernel, rfl, by decide +kernel, by decide +kernel⟩
theorem ok_next {f g1 g2 g3 C : Addr} {fd d1 d2 d3 : FuncData} (F : Fun K "next_standings" "next_standings" sNext f fd) (T : LayTxt K mg C)
    (G1 : FnOk P w K mg base CX0 1 g1 d1 ["self", "numbers"] (spByN C)) (b1 : Binds K d1 ["self", "numbers"] []) (m1 : Meth K C "by_names" g1)
    (G2 : FnOk P w K mg base CX0 5 g2 d2 ["layout", "start", "saying", "strength"] (spHeave C)) (b2 : Binds K d2 ["layout", "start", "saying", "strength"] []) (k2 : PySem.W.keepIn K (.ref g2) = true) (m2 : mg "least_heave" = some (.ref g2))
    (G3 : FnOk P w K mg base CX0 1 g3 d3 ["self", "now"] (spNumsOf C)) (b3 : Binds K d3 ["self", "now"] []) (m3 : Meth K C "numbers_of" g3) :
    FnOk P w K mg base CX0 6 f fd ["layout", "numbers", "strength"] (spNext C) := by
  refine F.ok scNext (fun vs H Q E h => ?_) (fun cdv A outer s H vs Q E hr h => ?_)
  · obtain ⟨lx, nl, dl, rb, sp, t, ds, rs, is, str, rfl, _⟩ := h
    rfl
  obtain ⟨lx, nl, dl, rb, sp, t, ds, rs, is, str, rfl, ls, ht, gd, st0, st3, k⟩ := h
  have hu := hu_of hr
  have hr1 : Room 1 _ := hr.mono (by decide)
  refine ⟨_, pss_cons (ps_set (i := 3) scNext.nd rfl (.inl rfl) (pe_meth (pv 0) T.cl m1 G1 hr1 b1 .nil pass0 (pa_cons (pv 1) pa_nil))) <|
    pss_cons (ps_set (i := 4) scNext.nd rfl (.inl rfl) (pe_lst pa_nil)) <|
    pss_cons (ps_for PassesOwn.never rfl (pi_list (pe_fld (pv 0) rfl)) (pg_name (i := 5) scNext.nd rfl (Or.inl rfl))
      (pss_one (ps_for PassesOwn.never rfl (pi_tup (pe_tup (pa_cons (pe_tup (pa_cons (pv 5) (pa_cons pe_str (pa_cons (pe_op op_add (pe_dget hu (pv 3) (pv 5) (fun _ _ => rfl)) pe_int) pa_nil)))) (pa_cons (pe_tup (pa_cons (pv 5) (pa_cons pe_str (pa_cons (pe_op op_sub (pe_dget hu (pv 3) (pv 5) (fun _ _ => rfl)) pe_int) pa_nil)))) pa_nil)))) (pg_name (i := 6) scNext.nd rfl (Or.inl rfl))
        (pss_cons (ps_set (i := 7) scNext.nd rfl (.inl rfl) (pe_call G2 hr rfl m2 k2 b2 .nil pass0 (pa_cons (pv 0) (pa_cons (pv 3) (pa_cons (pv 6) (pa_cons (pv 2) pa_nil)))))) <|
         pss_one (ps_if (pt_cmpR op_notN (pv 7) pe_non (nomark _)) (pss_one (ps_expr (pe_bm PySem.F.plainAttrs_list PySem.F.slot_list_append PySem.F.type_list_append mt_append (pv 4) (pa_cons (pe_meth (pv 0) T.cl m3 G3 hr1 b3 .nil pass0 (pa_cons (pv 7) pa_nil)) pa_nil)))) pss_nil))))) <|
    pss_one (ps_ret (pv 4)), ?_⟩
  have szl := sizeLine_eq
  have ek := emN_keys gd.len
  have nd := ls.g.nd
  have d2 := ls.g.d2
  obtain ⟨dx, fs, l1, l2, l3, l4, l5, l6, l7⟩ := ls.L.ob
  have hnm := ls.L.nm
  refine ⟨_, rfl, lx, dx, fs, rfl, l1, l6, _, rfl, lx, t, nl, ds.map nameOf, is, rfl, ls.L.at, .inl ht, by rw [List.length_map]; exact gd.len.symm, ls.g.nd, fun n nn => ?_⟩
  have sN := sameNew nn (.dK ((emN ds is).map kvOf))
  have hN0 : upd H n (.dK (((ds.map nameOf).zip is).map kvOf)) n = some (.dK ((emN ds is).map kvOf)) := upd_same
  generalize upd H n (.dK (((ds.map nameOf).zip is).map kvOf)) = H1 at sN hN0 ⊢
  refine ⟨by show 0 ≤ sizeLine; decide, fun M nM => ?_⟩
  have sM := sameNew nM (.lst [])
  have hM0 : upd H1 M (.lst []) M = some (.lst (([] : List Addr).map V.ref)) := upd_same
  have nMH : H M = none := sN.free nM
  have hN1 := sM _ _ hN0
  have s2 := sN.trans sM
  generalize upd H1 M (.lst []) = H2 at hM0 hN1 s2 ⊢
  refine ⟨_, rfl, lx, C, dx, fs, _, rfl, s2 _ _ l1, T.cl, T.nN, l2, nl, rfl, ⟨_, SqL.of (s2 _ _ hnm)⟩, for_list (K := K) (a := nl) (xs := (ds.map nameOf).map V.str) (fun i σ H3 => ∃ (v5 v6 v7 : Option V) (as : List Addr) (iss : List (List Int)), σ = [some (.ref lx), some (.ref t), some (.int str), some (.ref n), some (.ref M), v5, v6, v7] ∧ Same H H3 ∧ H3 n = some (.dK ((emN ds is).map kvOf)) ∧ H3 M = some (.lst (as.map V.ref)) ∧ PySem.Paired (NumAt H3) as iss ∧ iss.length ≤ 2 * i ∧ (∀ us ∈ iss, GoodN ds rs us ∧ StepN ds str is us) ∧ ∀ z ∈ (ds.map nameOf).take i, ∀ js, GoodN ds rs js → StepN ds str is js → fOf ds is z ≠ fOf ds js z → ∃ us ∈ iss, BtwN ds is us js ∧ 1 ≤ distN ds is us)
    ⟨none, none, none, [], [], rfl, s2, hN1, hM0, .nil, by simp, fun _ h => absurd h (by simp), fun _ h => absurd h (by simp)⟩ (fun i σ H3 _ ⟨_, _, _, _, _, _, s3, _⟩ => SqL.of (s3 _ _ hnm)) ?_ ?_⟩
  · rintro i x σ H3 hx ⟨v5, v6, v7, as, iss, rfl, s3, hn3, hM3, pr3, lis, ok3, co3⟩
    rw [List.getElem?_map] at hx
    obtain ⟨z, hz, rfl⟩ := Option.map_eq_some_iff.mp hx
    have hzm := List.mem_of_getElem? hz
    have il : i < ds.length := by
      have q := (List.getElem?_eq_some_iff.mp hz).1
      rwa [List.length_map] at q
    have kz : z ∈ (emN ds is).map (·.1) := by rw [ek]; exact hzm
    refine ⟨_, rfl, _, rfl, _, rfl, n, _, rfl, look_dg hn3 kz, _, _, rfl, rfl, by show 3 ≤ sizeLine; decide, fun ta nta => ?_⟩
    have sA := sameNew nta (.tup (sayV (z, "least", fOf ds is z + 1)))
    have hA : upd H3 ta (.tup (sayV (z, "least", fOf ds is z + 1))) ta = some (.tup (sayV (z, "least", fOf ds is z + 1))) := upd_same
    show tCons _ _ _ (upd H3 ta (.tup (sayV (z, "least", fOf ds is z + 1)))) _
    generalize upd H3 ta (.tup (sayV (z, "least", fOf ds is z + 1))) = H4 at sA hA ⊢
    have hn4 := sA _ _ hn3
    refine ⟨_, rfl, _, rfl, _, rfl, n, _, rfl, look_dg hn4 kz, _, _, rfl, rfl, by show 3 ≤ sizeLine; decide, fun tb ntb => ?_⟩
    have sB := sameNew ntb (.tup (sayV (z, "most", fOf ds is z - 1)))
    have hB : upd H4 tb (.tup (sayV (z, "most", fOf ds is z - 1))) tb = some (.tup (sayV (z, "most", fOf ds is z - 1))) := upd_same
    show tNil _ (upd H4 tb (.tup (sayV (z, "most", fOf ds is z - 1)))) _
    generalize upd H4 tb (.tup (sayV (z, "most", fOf ds is z - 1))) = H5 at sB hB ⊢
    refine ⟨by show 2 ≤ sizeLine; decide, fun tt ntt => ?_⟩
    have sT := sameNew ntt (.tup [.ref ta, .ref tb])
    have hT := upd_same (H := H5) (a := tt) (o := .tup [.ref ta, .ref tb])
    generalize upd H5 tt (.tup [.ref ta, .ref tb]) = H6 at sT hT ⊢
    have s36 := sA.trans (sB.trans sT)
    have hta := sT _ _ (sB _ _ hA)
    have htb := sT _ _ hB
    refine ⟨tt, rfl, ⟨_, SqT.of hT⟩, for_it (walk_tup (xs := [.ref ta, .ref tb])) (fun j σ H9 => ∃ (v6 v7 : Option V) (as : List Addr) (iss : List (List Int)), σ = [some (.ref lx), some (.ref t), some (.int str), some (.ref n), some (.ref M), some (.str z), v6, v7] ∧ Same H H9 ∧ H9 n = some (.dK ((emN ds is).map kvOf)) ∧ H9 M = some (.lst (as.map V.ref)) ∧ PySem.Paired (NumAt H9) as iss ∧ iss.length ≤ 2 * i + j ∧ (∀ us ∈ iss, GoodN ds rs us ∧ StepN ds str is us) ∧ (∀ z ∈ (ds.map nameOf).take i, ∀ js, GoodN ds rs js → StepN ds str is js → fOf ds is z ≠ fOf ds js z → ∃ us ∈ iss, BtwN ds is us js ∧ 1 ≤ distN ds is us) ∧ (H9 tt = some (.tup [.ref ta, .ref tb]) ∧ H9 ta = some (.tup (sayV (z, "least", fOf ds is z + 1))) ∧ H9 tb = some (.tup (sayV (z, "most", fOf ds is z - 1)))) ∧ (1 ≤ j → ∀ js, GoodN ds rs js → StepN ds str is js → fOf ds is z < fOf ds js z → ∃ us ∈ iss, BtwN ds is us js ∧ 1 ≤ distN ds is us) ∧ (2 ≤ j → ∀ js, GoodN ds rs js → StepN ds str is js → fOf ds js z < fOf ds is z → ∃ us ∈ iss, BtwN ds is us js ∧ 1 ≤ distN ds is us))
      ⟨_, _, as, iss, rfl, s3.trans s36, s36 _ _ hn3, s36 _ _ hM3, L2.Paired.mapP pr3 fun a z h => s36 _ _ h, by omega, ok3, co3, ⟨hT, hta, htb⟩, fun h => absurd h (by decide), fun h => absurd h (by decide)⟩ (fun j σ H9 _ ⟨_, _, _, _, _, _, _, _, _, _, _, _, q, _⟩ => SqT.of q.1) ?_ ?_⟩
    · rintro j x σ H8 H9 hj ⟨v6, v7, as9, iss9, rfl, s9, hn9, hM9, pr9, li9, ok9, co9, ⟨ht9, ha9, hb9⟩, up9, dn9⟩ ⟨rfl, hx⟩
      obtain ⟨q, y, hq, rfl, hy⟩ : ∃ (q : Addr) (y : Say), H9 q = some (.tup (sayV y)) ∧ x = .ref q ∧ ((j = 0 ∧ y = (z, ("least" : Str), fOf ds is z + 1)) ∨ (j = 1 ∧ y = (z, ("most" : Str), fOf ds is z - 1))) := by
        match j, hx with
        | 0, hx => exact ⟨ta, _, ha9, (Option.some.inj hx).symm, .inl ⟨rfl, rfl⟩⟩
        | 1, hx => exact ⟨tb, _, hb9, (Option.some.inj hx).symm, .inr ⟨rfl, rfl⟩⟩
        | j + 2, hx => simp at hx
      have hyk : SayH (ds.map nameOf) y := by
        rcases hy with ⟨_, rfl⟩ | ⟨_, rfl⟩
        · exact ⟨hzm, (show ("least" : Str) ∈ sorts2 by decide +kernel)⟩
        · exact ⟨hzm, (show ("most" : Str) ∈ sorts2 by decide +kernel)⟩
      have hyn : holdS (fOf ds is) y = false := by
        rcases hy with ⟨_, rfl⟩ | ⟨_, rfl⟩
        · rw [hold_least]
          exact decide_eq_false (by omega)
        · rw [hold_most]
          exact decide_eq_false (by omega)
      refine ⟨_, rfl, _, rfl, _, rfl, _, rfl, lx, nl, dl, rb, sp, n, q, ds, rs, emN ds is, y, str, rfl, ls.same s9, hn9, ek, .inl hq, hyk, hyn, st0, st3, gd.span, gd.rule, fun H11 s11 none11 => ?_, fun d es' size H11 s11 nd11 hd11 ek11 pul => ?_⟩
      · refine ⟨_, rfl, rfl, _, rfl, ?_⟩
        have nn : ∀ js, GoodN ds rs js → StepN ds str is js → holdS (fOf ds js) y = false := fun js g st => by
          cases c : holdS (fOf ds js) y with
          | false => rfl
          | true =>
            refine absurd ?_ (none11 (fOf ds js))
            exact ⟨g.span, fun R hR => by
              obtain ⟨r, hr, rfl⟩ := List.mem_map.mp hR
              exact g.rule r hr, c, st.1, st.2⟩
        refine iteF ⟨_, _, as9, iss9, rfl, s9.trans s11, s11 _ _ hn9, s11 _ _ hM9, L2.Paired.mapP pr9 fun a z h => s11 _ _ h, by omega, ok9, co9, ⟨s11 _ _ ht9, s11 _ _ ha9, s11 _ _ hb9⟩, fun h1 js g st lt => ?_, fun h2 js g st lt => ?_⟩
        · rcases hy with ⟨rfl, rfl⟩ | ⟨rfl, rfl⟩
          · have q := nn js g st
            rw [hold_least, decide_eq_false_iff_not] at q
            exact absurd (by omega) q
          · exact up9 (by omega) js g st lt
        · rcases hy with ⟨rfl, rfl⟩ | ⟨rfl, rfl⟩
          · omega
          · have q := nn js g st
            rw [hold_most, decide_eq_false_iff_not] at q
            exact absurd (by omega) q
      · have s911 := s9.trans s11
        obtain ⟨w1, w2, w3, w4⟩ := pul.good nd ek11
        have ls11 := ls.same s911
        refine ⟨_, rfl, rfl, _, rfl, ?_⟩
        refine iteT ⟨_, rfl, .inl ⟨rfl, _, SqL.of (s11 _ _ hM9)⟩, _, rfl, lx, dx, fs, rfl, s911 _ _ l1, l7, _, rfl, lx, nl, dl, rb, sp, d, ds, rs, es', rfl, ls11.L, ls.g, hd11, ek11, fun g H12 s12 hg => ?_⟩
        have hM12 := s12 _ _ (s11 _ _ hM9)
        have l9 := PySem.Paired.length pr9
        refine ⟨M, _, _, rfl, rfl, hM12, small1000 (by rw [List.length_map]; omega), ?_⟩
        have s912 := s911.trans s12
        have gM : ∀ {b : Addr} {xs : List V}, H12 b = some (.tup xs) → upd H12 M (.lst (as9.map V.ref ++ [V.ref g])) b = some (.tup xs) := fun {b xs} e => by
          rw [upd_ne (ne_of e hM12 (by intro z; cases z))]
          exact e
        refine ⟨_, _, as9 ++ [g], iss9 ++ [numN ds es'], rfl, mutN s912 nMH, by rw [upd_ne (ne_of (s12 _ _ (s11 _ _ hn9)) hM12 (by intro z; cases z))]; exact s12 _ _ (s11 _ _ hn9), by rw [upd_same, List.map_append]; rfl, paired_app (L2.Paired.mapP pr9 fun a z h => gM (s12 _ _ (s11 _ _ h))) (.cons (gM hg) .nil), by rw [List.length_append]; show _ + 1 ≤ _; omega, fun us hus => ?_, fun z' hz' js g' st ne => ?_, ⟨gM (s12 _ _ (s11 _ _ ht9)), gM (s12 _ _ (s11 _ _ ha9)), gM (s12 _ _ (s11 _ _ hb9))⟩, fun h1 js g' st lt => ?_, fun h2 js g' st lt => ?_⟩
        · rcases List.mem_append.mp hus with hus | hus
          · exact ok9 us hus
          · rw [List.mem_singleton.mp hus]
            exact ⟨w1, w2⟩
        · obtain ⟨us, hu1, hu2⟩ := co9 z' hz' js g' st ne
          exact ⟨us, List.mem_append_left _ hu1, hu2⟩
        · rcases hy with ⟨rfl, rfl⟩ | ⟨rfl, rfl⟩
          · exact ⟨_, List.mem_append_right _ (List.mem_singleton.mpr rfl), w4 js g' st (by rw [hold_least]; exact decide_eq_true (by omega)), w3⟩
          · obtain ⟨us, hu1, hu2⟩ := up9 (by omega) js g' st lt
            exact ⟨us, List.mem_append_left _ hu1, hu2⟩
        · rcases hy with ⟨rfl, rfl⟩ | ⟨rfl, rfl⟩
          · omega
          · exact ⟨_, List.mem_append_right _ (List.mem_singleton.mpr rfl), w4 js g' st (by rw [hold_most]; exact decide_eq_true (by omega)), w3⟩
    · rintro σ H9 ⟨v6, v7, as9, iss9, rfl, s9, hn9, hM9, pr9, li9, ok9, co9, _, up9, dn9⟩
      refine ⟨_, _, _, as9, iss9, rfl, s9, hn9, hM9, pr9, (show iss9.length ≤ 2 * (i + 1) from (show iss9.length ≤ 2 * i + 2 from li9)), ok9, fun z' hz' js g st ne => ?_⟩
      rw [take_more hz] at hz'
      rcases List.mem_append.mp hz' with hz' | hz'
      · exact co9 z' hz' js g st ne
      · rw [List.mem_singleton.mp hz'] at ne
        rcases Int.lt_or_gt_of_ne ne with h | h
        · exact up9 (show 1 ≤ 2 by decide) js g st h
        · exact dn9 (show 2 ≤ 2 by decide) js g st h
  · rintro σ H3 ⟨v5, v6, v7, as, iss, rfl, s3, hn3, hM3, pr3, lis, ok3, co3⟩
    rw [List.length_map, List.length_map] at lis
    rw [List.length_map, List.take_length] at co3
    refine ⟨_, rfl, k M as iss H3 s3 nMH hM3 pr3 lis ok3 fun js g st h1 => ?_⟩
    obtain ⟨z, hz, ne⟩ := first_pull h1
    exact co3 z hz js g st ne
end
end Pk
end
section
set_option maxHeartbeats 1000000
/-! Numbers only: what steps reach. -/
namespace Pk
open PySem PySem.Spec PyProof.Rows L2
theorem val_head (p : Str × Int) (l : List (Key × V)) (y : Str) : valV (kvOf p :: l) (Sum.inr y) = if p.1 = y then some (.int p.2) else valV l (Sum.inr y) := by
  unfold valV
  by_cases c : p.1 = y
  · rw [if_pos c, List.find?_cons_of_pos (by simp [kvOf, c])]
    rfl
  · rw [if_neg c, List.find?_cons_of_neg (by simpa [kvOf] using c)]
theorem look_head (p : Str × Int) (em : List (Str × Int)) (y : Str) : lookE (p :: em) y = if p.1 = y then p.2 else lookE em y := by
  unfold lookE
  rw [List.map_cons, val_head]
  by_cases c : p.1 = y
  · rw [if_pos c, if_pos c]
  · rw [if_neg c, if_neg c]
theorem num_zip : ∀ {ds : List PyData} {is : List Int}, (ds.map nameOf).Nodup → is.length = ds.length → numN ds ((ds.map nameOf).zip is) = is
  | [], [], _, _ => rfl
  | d :: ds, i :: is, nd, hl => by
    rw [List.map_cons, List.nodup_cons] at nd
    have ih := num_zip nd.2 (is := is) (by simpa using hl)
    unfold numN at *
    rw [List.map_cons, List.map_cons, List.zip_cons_cons, look_head, if_pos rfl]
    congr 1
    rw [← ih]
    apply List.map_congr_left
    intro e he
    rw [look_head, if_neg, ih]
    intro q
    exact nd.1 (by rw [show nameOf d = nameOf e from q]; exact List.mem_map.mpr ⟨e, he, rfl⟩)
  | [], _ :: _, _, h => by cases h
  | _ :: _, [], _, h => by cases h
theorem num_emN {ds : List PyData} {is : List Int} (nd : (ds.map nameOf).Nodup) (h : is.length = ds.length) : numN ds (emN ds is) = is := num_zip nd h
theorem eq_of_f {ds : List PyData} {is js : List Int} (nd : (ds.map nameOf).Nodup) (h1 : is.length = ds.length) (h2 : js.length = ds.length) (h : ∀ z ∈ ds.map nameOf, fOf ds is z = fOf ds js z) : is = js := by
  rw [← num_emN nd h1, ← num_emN nd h2]
  unfold numN
  exact List.map_congr_left fun d hd => h _ (List.mem_map.mpr ⟨d, hd, rfl⟩)
theorem distN_nn (ds : List PyData) (is js : List Int) : 0 ≤ distN ds is js := dist_nn _ _ _
/-- the way goes on from what lies between -/
theorem step_on {ds : List PyData} {str : Int} {is us js : List Int} (st : StepN ds str is js) (b : BtwN ds is us js) : StepN ds str us js ∧ distN ds us js = distN ds is js - distN ds is us := by
  have d := dist_btw (f := fOf ds is) (g := fOf ds us) (t := fOf ds js) b
  refine ⟨⟨fun z hz => ?_, ?_⟩, by unfold distN; omega⟩
  · have g := st.1 z hz
    have bz := b z hz
    unfold btw at bz
    exact ⟨fun h => g.1 (by omega), fun h => g.2 (by omega)⟩
  · have := dist_nn (fOf ds is) (fOf ds us) (ds.map nameOf)
    have := st.2
    omega
/-- what is reached by steps -/
inductive Rch (ds rs : List PyData) (str : Int) (is : List Int) : List Int → Prop
  | base : Rch ds rs str is is
  | step {us js : List Int} : Rch ds rs str is us → GoodN ds rs js → StepN ds str us js → Rch ds rs str is js
/-- closed under what is next, closed under steps -/
theorem closed_step {ds rs : List PyData} {str : Int} {fs : List (List Int)} (nd : (ds.map nameOf).Nodup) (hg : ∀ u ∈ fs, GoodN ds rs u) (cl : ∀ u ∈ fs, ∀ js, GoodN ds rs js → StepN ds str u js → 1 ≤ distN ds u js → ∃ us ∈ fs, BtwN ds u us js ∧ 1 ≤ distN ds u us) :
    ∀ (m : Nat) (u : List Int), u ∈ fs → ∀ js, GoodN ds rs js → StepN ds str u js → (distN ds u js).toNat ≤ m → js ∈ fs := by
  intro m
  induction m with
  | zero =>
    intro u hu js g st hm
    have nn := distN_nn ds u js
    have e := eq_of_f nd (hg u hu).len g.len (dist_zero (by unfold distN at hm nn; omega))
    rw [← e]
    exact hu
  | succ m ih =>
    intro u hu js g st hm
    by_cases h1 : 1 ≤ distN ds u js
    · obtain ⟨us, hus, b, p⟩ := cl u hu js g st h1
      obtain ⟨s2, d2⟩ := step_on st b
      exact ih us hus js g s2 (by omega)
    · have e := eq_of_f nd (hg u hu).len g.len (dist_zero (by unfold distN at h1; omega))
      rw [← e]
      exact hu
theorem closed_rch {ds rs : List PyData} {str : Int} {is : List Int} {fs : List (List Int)} (nd : (ds.map nameOf).Nodup) (hg : ∀ u ∈ fs, GoodN ds rs u) (cl : ∀ u ∈ fs, ∀ js, GoodN ds rs js → StepN ds str u js → 1 ≤ distN ds u js → ∃ us ∈ fs, BtwN ds u us js ∧ 1 ≤ distN ds u us) (h0 : is ∈ fs) :
    ∀ js, Rch ds rs str is js → js ∈ fs := by
  intro js h
  induction h with
  | base => exact h0
  | @step us js _ g st ih => exact closed_step nd hg cl _ us ih js g st (Nat.le_refl _)
/-- the law's own search: closed under all steps -/
theorem closed_rch2 {ds rs : List PyData} {str : Int} {is : List Int} {fs : List (List Int)} (cl : ∀ u ∈ fs, ∀ js, GoodN ds rs js → StepN ds str u js → js ∈ fs) (h0 : is ∈ fs) : ∀ js, Rch ds rs str is js → js ∈ fs := by
  intro js h
  induction h with
  | base => exact h0
  | @step us js _ g st ih => exact cl us ih js g st
end Pk
end
section
set_option maxHeartbeats 1000000
/-! The law's own: stands, may, cost, far. -/
namespace Pk
open PySem PySem.Spec PyProof.Rows L2
abbrev sLStands : Stmt := topH 73
abbrev sLMay : Stmt := topH 75
def allD (ds rs : List PyData) (d : PyData) : Bool := rs.all (ruleH (lookE (atE ds d)))
def spLStands : Sp := fun vs H Q _ => ∃ (h : Addr) (x : V) (ds rs : List PyData) (d : PyData), vs = [.ref h, x] ∧ HouseAt H h ds rs ∧ Tr H x d ∧ numsD ds d = true ∧ ∀ H', Same H H' → Q (.bl (allD ds rs d)) H'
section
variable {P : Program} {w : World} {K : PySem.W.Frag} {mg : Str → Option Value} {base : Heap}
abbrev nLStands : List Str := ["_law_house_here", "_law_numbers", "_law_at", "_law_rule"]
theorem scLStands : FnScope nLStands ["_law_house_here", "_law_numbers"] (defScope sLStands) := ⟨rfl, rfl, rfl, by decide +kernel, rfl, by decide +kernel, by decide +kernel⟩
theorem ok_lstands {f g1 g2 : Addr} {fd d1 d2 : FuncData} (F : Fun K "_law_stands" "_law_stands" sLStands f fd) (G1 : FnOk P w K mg base CX0 1 g1 d1 ["_law_house_here", "_law_numbers"] spLNamed) (b1 : Binds K d1 ["_law_house_here", "_law_numbers"] []) (k1 : PySem.W.keepIn K (.ref g1) = true) (m1 : mg "_law_named" = some (.ref g1))
    (G2 : FnOk P w K mg base CX0 2 g2 d2 ["_law_rule", "_law_at"] spRuleH) (b2 : Binds K d2 ["_law_rule", "_law_at"] []) (k2 : PySem.W.keepIn K (.ref g2) = true) (m2 : mg "_law_holds" = some (.ref g2)) :
    FnOk P w K mg base CX0 3 f fd ["_law_house_here", "_law_numbers"] spLStands := by
  refine F.ok scLStands (fun vs H Q E h => ?_) (fun cdv A outer s H vs Q E hr h => ?_)
  · obtain ⟨h, x, ds, rs, d, rfl, _⟩ := h
    rfl
  obtain ⟨h, x, ds, rs, d, rfl, ha, td, hnm, k⟩ := h
  have hr1 : Room 1 _ := hr.mono (by decide)
  have hu0 := hr.units0
  refine ⟨_, pss_cons (ps_set (i := 2) scLStands.nd rfl (.inr rfl) (pe_call G1 hr1 rfl m1 k1 b1 .nil pass0 (pa_cons (pv 0) (pa_cons (pv 1) pa_nil)))) <|
    pss_one (ps_ret (pe_cmpR (op_eqNil hu0) (pe_lc (own := [("_law_rule", 3)]) (g := gName 3) (by rfl) scLStands.nd (pi_tup (pe_ix ix_tup (pv 0) pe_int (fun _ _ => rfl))) (blkOk_by (N := nLStands) (sc := defScope sLStands) (by decide +kernel)) (fun _ _ _ _ _ => pg_name (i := 3) scLStands.nd rfl (Or.inl rfl)) (fun _ _ _ _ _ => pts_one (pt_not (pt_val (pe_call G2 hr rfl m2 k2 b2 .nil pass0 (pa_cons (pv 3) (pa_cons (pv 2) pa_nil)))))) (fun _ _ _ _ _ => pv 3)) (pe_lst pa_nil) (nomark _))), ?_⟩
  have th := ha.tr
  cases th with
  | @tup _ hs _ hh al =>
  revert hh
  match hs, al with
  | [_, _], .cons tA (.cons (@Tr.tup _ b ys _ hB alB) .nil) =>
  intro hh
  have lB := alB.length
  have r2 := ha.hg.r2
  obtain ⟨is, rfl, li, ei⟩ := nums_is hnm
  have ek : (atE ds (.tuple (is.map PyData.int))).map (·.1) = ds.map nameOf := by
    unfold atE
    rw [ei]
    exact zip_keys (by rw [List.length_map]; exact li.symm)
  unfold allD at k
  refine ⟨_, rfl, _, rfl, h, x, ds, rs, _, rfl, ha, td, hnm, fun p H2 s2 np hp => ?_⟩
  generalize atE ds (.tuple (is.map PyData.int)) = em at ek hp k
  refine ⟨_, rfl, h, _, _, _, rfl, rfl, (.inl (hh.map (s2 _))), (rfl : atI [_, V.ref b] 1 = some (.ref b)), b, rfl, ⟨_, (.inl (hB.map (s2 _)))⟩, fun D hD => lc_tup (K := K) (a := b) (xs := ys) (fun i H3 => (∃ acc : List V, H3 D = some (.lst acc) ∧ acc.length ≤ i ∧ acc.isEmpty = (rs.take i).all (ruleH (lookE em))) ∧ Same H2 H3)
    ⟨⟨[], upd_same, Nat.le_refl _, rfl⟩, sameNew hD _⟩ (fun i H3 _ ⟨_, s3⟩ => (.inl ((hB.map (s2 _)).map (s3 _)))) ?_ ?_⟩
  · rintro i y H3 hy ⟨⟨acc, e3, la, ea⟩, s3⟩
    obtain ⟨r, hr', tr⟩ := alB.get hy
    have il : i < rs.length := (List.getElem?_eq_some_iff.mp hr').1
    have rl := (ha.hg.rules r (List.mem_of_getElem? hr')).rule
    refine ⟨rfl, _, rfl, _, rfl, y, p, em, r, rfl, (tr.same s2).same s3, by rw [ek]; exact rl, s3 _ _ hp, _, rfl, ?_⟩
    have et : (rs.take (i + 1)).all (ruleH (lookE em)) = ((rs.take i).all (ruleH (lookE em)) && ruleH (lookE em) r) := by
      rw [take_more hr', List.all_append]
      simp
    cases c : ruleH (lookE em) r with
    | true =>
      rw [c, Bool.and_true] at et
      exact iteF ⟨⟨acc, e3, Nat.le_succ_of_le la, by rw [et]; exact ea⟩, s3⟩
    | false =>
      rw [c, Bool.and_false] at et
      refine iteT ⟨_, rfl, acc, e3, small1000 (by omega), ⟨_, upd_same, ?_, ?_⟩, fun c o e => ?_⟩
      · rw [List.length_append]
        exact Nat.succ_le_succ la
      · rw [et]
        simp
      · rw [upd_ne (ne_of_none e hD)]
        exact s3 _ _ e
  · rintro H3 ⟨⟨acc, e3, la, ea⟩, s3⟩
    rw [List.take_of_length_le (by omega)] at ea
    refine ⟨by show 0 ≤ sizeLine; decide, fun D2 hD2 => ⟨D, D2, acc, rfl, rfl, SqL.of (sameNew hD2 _ _ _ e3), SqL.of upd_same, ?_⟩⟩
    rw [ea]
    exact k _ ((s2.trans s3).trans (sameNew hD2 _))
end
end Pk
end
section
set_option maxHeartbeats 1000000
/-! zip of three tuples of one length. -/
namespace Pk
open PySem PySem.Spec PyProof.Rows L2
def ItzT3 (K : PySem.W.Frag) (a b c : Addr) : It :=
  ⟨fun i H => ∃ xs ys zs : List V, SqT K H a xs ∧ SqT K H b ys ∧ SqT K H c zs ∧ ys.length = xs.length ∧ zs.length = xs.length ∧ i < xs.length,
    fun i H v H' => ∃ T x y u, v = .ref T ∧ H T = none ∧ H' = upd H T (.tup [x, y, u]) ∧ (∀ xs, SqT K H a xs → xs[i]? = some x) ∧ (∀ ys, SqT K H b ys → ys[i]? = some y) ∧ ∀ zs, SqT K H c zs → zs[i]? = some u,
    fun i H => ∃ xs ys zs : List V, SqT K H a xs ∧ SqT K H b ys ∧ SqT K H c zs ∧ ys.length = xs.length ∧ zs.length = xs.length ∧ i = xs.length⟩
theorem backV {xs : List V} {us : List Value} {i : Nat} {v : Value} (r : Vals xs us) (h : us[i]? = some v) : ∃ x, xs[i]? = some x ∧ RelV x v := by
  have hl := r.length
  obtain ⟨hi, _⟩ := List.getElem?_eq_some_iff.mp h
  have hx : xs[i]? = some (xs[i]'(by omega)) := List.getElem?_eq_getElem (by omega)
  obtain ⟨u, hu, ru⟩ := r.get hx
  rw [h] at hu
  cases hu
  exact ⟨_, hx, ru⟩
theorem turn_zip3 {P : Program} {w : World} {K : PySem.W.Frag} {elts : List Expr} {kk : Nat} {tpos : Pos} {a b c z TI TO i1 i2 i3 : Addr} (S : ZipSep3 z TI TO i1 i2 i3 [i1, a] [i2, b] [i3, c]) (n1 : a ≠ i1) (n2 : b ≠ i2) (n3 : c ≠ i3) :
    Turn P w K (.Tuple elts kk tpos) (ItzT3 K a b c) [z, TI, TO, i1, i2, i3] z (fun i h => IsZip h z TI TO .none ∧ IsTupOf3 h TI (.ref i1) (.ref i2) (.ref i3) ∧ (∃ x y u, IsTupOf3 h TO x y u) ∧ h.IsTupleIter i1 a i ∧ h.IsTupleIter i2 b i ∧ h.IsTupleIter i3 c i) where
  mem := by simp
  obj := fun i h st d hd => by
    obtain ⟨hz, hTI, ⟨x, y, u, hTO⟩, ⟨o1, e1, _, d1⟩, ⟨o2, e2, _, d2⟩, ⟨o3, e3, _, d3⟩⟩ := st
    have e' : d = z ∨ d = TI ∨ d = TO ∨ d = i1 ∨ d = i2 ∨ d = i3 := by simpa using hd
    rcases e' with q | q | q | q | q | q
    · rw [q]; exact ⟨_, hz, fun v q => nomatch q⟩
    · rw [q]; exact ⟨_, hTI, fun v q => nomatch q⟩
    · rw [q]; exact ⟨_, hTO, fun v q => nomatch q⟩
    · rw [q]; exact ⟨o1, e1, fun v q => by rw [d1] at q; cases q⟩
    · rw [q]; exact ⟨o2, e2, fun v q => by rw [d2] at q; cases q⟩
    · rw [q]; exact ⟨o3, e3, fun v q => by rw [d3] at q; cases q⟩
  keep := fun i h h' st k => by
    obtain ⟨hz, hTI, ⟨x, y, u, hTO⟩, h1, h2, h3⟩ := st
    exact ⟨k z (by simp) _ hz, k TI (by simp) _ hTI, ⟨x, y, u, k TO (by simp) _ hTO⟩, h1.at fun o q => k i1 (by simp) o q, h2.at fun o q => k i2 (by simp) o q, h3.at fun o q => k i3 (by simp) o q⟩
  item := by
    intro X hP hw hK hc i pins s σ H E I hf st hg
    subst hP hw hK
    obtain ⟨hz, hTI, hTO, h1, h2, h3⟩ := st
    obtain ⟨xs, ys, zs, hqx, hqy, hqz, ly, lz, hi⟩ := hg
    obtain ⟨its, rv, p, _⟩ := I.tuple hqx
    obtain ⟨its2, rv2, p2, _⟩ := I.tuple hqy
    obtain ⟨its3, rv3, p3, _⟩ := I.tuple hqz
    have e1 := rv.length
    have e2 := rv2.length
    have e3 := rv3.length
    have hh : X.A.in1.handled = none := I.ok.hd hc
    refine (GoesN.zip3 S (Draws.tuple hh i1 a n1 its.toArray) (Draws.tuple hh i2 b n2 its2.toArray) (Draws.tuple hh i3 c n3 its3.toArray)).goes i s _ E (by simp only [List.size_toArray]; omega) ⟨hz, hTI, hTO, ⟨h1, p⟩, ⟨h2, p2⟩, ⟨h3, p3⟩⟩ ?_
    rintro v h' tk ⟨T, vx, vy, vu, rfl, hT, px, py, pu, tT⟩ ⟨z', TI', TO', ⟨h1', _⟩, ⟨h2', _⟩, ⟨h3', _⟩⟩ hk _
    obtain ⟨x, hx, rx⟩ := backV rv (show its[i]? = some vx by simpa using px)
    obtain ⟨y, hy, ry⟩ := backV rv2 (show its2[i]? = some vy by simpa using py)
    obtain ⟨u, hu, ru⟩ := backV rv3 (show its3[i]? = some vu by simpa using pu)
    have new : ObjOk X.prog X.w (upd H T (.tup [x, y, u])) h' T (.tup [x, y, u]) :=
      ⟨by show 3 ≤ sizeLine; decide, [vx, vy, vu], .cons rx (.cons ry (.cons ru .nil)), tT⟩
    have I1 : Inv X pins σ (upd H T (.tup [x, y, u])) { s with heap := h', toks := tk } :=
      I.turnedNew (t' := tk) (ch := [z, TI, TO, i1, i2, i3]) (fun d o hb q => hk d o (fun q' => hb (by simp at q' ⊢; rcases q' with q' | q' | q' | q' | q' <;> simp [q'])) q) hf hT new
    refine ⟨.ref T, _, I1, rfl, ⟨T, x, y, u, rfl, I.hok.fresh hT, rfl, fun l hl => by rw [I.tuple_inj hl hqx]; exact hx, fun l hl => by rw [I.tuple_inj hl hqy]; exact hy, fun l hl => by rw [I.tuple_inj hl hqz]; exact hu⟩, ⟨z', TI', TO', h1', h2', h3'⟩, fun d hdm => ?_⟩
    have hlt : d < s.heap.objs.size := by
      have e' : d = z ∨ d = TI ∨ d = TO ∨ d = i1 ∨ d = i2 ∨ d = i3 := by simpa using hdm
      obtain ⟨_, _, _, hTO⟩ := hTO
      rcases e' with q | q | q | q | q | q
      · rw [q]; exact Heap.lt_size hz
      · rw [q]; exact Heap.lt_size hTI
      · rw [q]; exact Heap.lt_size hTO
      · rw [q]; obtain ⟨_, e1, _⟩ := h1; exact Heap.lt_size e1
      · rw [q]; obtain ⟨_, e2, _⟩ := h2; exact Heap.lt_size e2
      · rw [q]; obtain ⟨_, e3, _⟩ := h3; exact Heap.lt_size e3
    rw [upd_ne (Nat.ne_of_lt (Nat.lt_of_lt_of_le hlt hT))]
    exact (hf d hdm).1
  done := by
    intro X hP hw hK hc i pins s σ H E I hf st hg
    subst hP hw hK
    obtain ⟨hz, hTI, hTO, h1, h2, h3⟩ := st
    obtain ⟨xs, ys, zs, hqx, hqy, hqz, ly, lz, hi⟩ := hg
    obtain ⟨its, rv, p, _⟩ := I.tuple hqx
    obtain ⟨its2, rv2, p2, _⟩ := I.tuple hqy
    obtain ⟨its3, rv3, p3, _⟩ := I.tuple hqz
    have e1 := rv.length
    have e2 := rv2.length
    have e3 := rv3.length
    have hh : X.A.in1.handled = none := I.ok.hd hc
    have en : i = min (min its.toArray.size its2.toArray.size) its3.toArray.size := by simp only [List.size_toArray]; omega
    subst en
    refine (GoesN.zip3 (elts := elts) (x1 := kk) (pos := tpos) S (Draws.tuple hh i1 a n1 its.toArray) (Draws.tuple hh i2 b n2 its2.toArray) (Draws.tuple hh i3 c n3 its3.toArray)).stops s _ E ⟨hz, hTI, hTO, ⟨h1, p⟩, ⟨h2, p2⟩, ⟨h3, p3⟩⟩ ?_
    intro h' tk hk _
    exact I.turnedL (t' := tk) (ch := [z, TI, TO, i1, i2, i3]) (fun d o hb q => hk d o (fun q' => hb (by simp at q' ⊢; rcases q' with q' | q' | q' | q' | q' <;> simp [q'])) q) hf
  self := fun A i s Q E st h => wpAny_pyIter_zip st.1 h
def iZip3 (K : PySem.W.Frag) (ta : TA) : TI := fun σ H R => ta σ H fun vs H1 => ∃ (a b c : Addr) (xs ys zs : List V), vs = [.ref a, .ref b, .ref c] ∧ SqT K H1 a xs ∧ SqT K H1 b ys ∧ SqT K H1 c zs ∧ R (ItzT3 K a b c) H1
theorem pi_zip3 {X : Cx} {e e2 e3 : Expr} {ta : TA} {p pos tpos : Pos} {elts : List Expr} {kk : Nat} (hg : Gl X "zip") (hm : X.mg "zip" = none) (ha : PA X [e, e2, e3] ta)
    (hs : starEach [e, e2, e3] X.env = (false, eval e X.env) :: starEach [e2, e3] X.env := by rfl) (hpl : (backTo pos (starEach [e2, e3] X.env)).any (·.1) = false := by rfl) :
    PI X (.Tuple elts kk tpos) (.Call (.Name "zip" p) [e, e2, e3] [] pos) (iZip3 X.K ta) := by
  refine ⟨fun pins s σ H R I h => ?_⟩
  refine Call_ (ld_blt I hg hm PyProof.Rows.boot_zip (PyProof.Rows.callWith_type1 (thn (ha.run pos pins s σ H _ I h) fun us s1 ⟨vs, H1, I1, r1, q1⟩ => ?_) hs hpl))
  obtain ⟨a, b, c, xs, ys, zs, ex, hqx, hqy, hqz, q⟩ := q1
  subst ex
  cases r1 with
  | cons r rr =>
  cases rr with
  | cons r' rr =>
  cases rr with
  | cons r'' rr =>
  cases rr
  cases r
  cases r'
  cases r''
  obtain ⟨its, rv, p1, _⟩ := I1.tuple hqx
  obtain ⟨its2, rv2, p2, _⟩ := I1.tuple hqy
  obtain ⟨its3, rv3, p3, _⟩ := I1.tuple hqz
  have l1 : a < s1.heap.objs.size := let ⟨_, e, _⟩ := p1; Heap.lt_size e
  have l2 : b < s1.heap.objs.size := let ⟨_, e, _⟩ := p2; Heap.lt_size e
  have l3 : c < s1.heap.objs.size := let ⟨_, e, _⟩ := p3; Heap.lt_size e
  refine zip_begins3 (begins_tuple a its.toArray) (begins_tuple b its2.toArray) (begins_tuple c its3.toArray) p1 p2 p3 fun h' hz hTI hTO h1 h2 h3 hsz hk => wpAny_pyIter_zip hz ?_
  have I2 : Inv X pins σ H1 { s1 with heap := h' } := I1.kept (t' := s1.toks) hk
  have one : ∀ {q n : Addr}, q < n → ∀ d ∈ [q], d < n := fun h d hd => by rw [List.mem_singleton.mp hd]; exact h
  refine ⟨s1.heap.objs.size + 5, [s1.heap.objs.size + 5, s1.heap.objs.size + 3, s1.heap.objs.size + 4, s1.heap.objs.size, s1.heap.objs.size + 1, s1.heap.objs.size + 2], _, _, H1, rfl, I2, turn_zip3 (zip_sep3 (one l1) (one l2) (one l3)) (Nat.ne_of_lt l1) (Nat.ne_of_lt (Nat.lt_succ_of_lt l2)) (Nat.ne_of_lt (Nat.lt_succ_of_lt (Nat.lt_succ_of_lt l3))), ⟨hz, hTI, ⟨_, _, _, hTO⟩, ⟨_, h1, rfl, rfl⟩, ⟨_, h2, rfl, rfl⟩, ⟨_, h3, rfl, rfl⟩⟩, fun d hdm => ?_, q⟩
  have hle : s1.heap.objs.size ≤ d := by
    have e' : d = s1.heap.objs.size + 5 ∨ d = s1.heap.objs.size + 3 ∨ d = s1.heap.objs.size + 4 ∨ d = s1.heap.objs.size ∨ d = s1.heap.objs.size + 1 ∨ d = s1.heap.objs.size + 2 := by simpa using hdm
    rcases e' with z | z | z | z | z | z <;> rw [z] <;> first | exact Nat.le_add_right _ _ | exact Nat.le_refl _
  exact I1.fpOk hle (I1.hok.fresh hle)
def YTrip (xs ys zs : Nat → Option V) : Nat → Hp → V → Hp → Prop := fun i H v H' => ∃ T x y u, v = .ref T ∧ H T = none ∧ H' = upd H T (.tup [x, y, u]) ∧ xs i = some x ∧ ys i = some y ∧ zs i = some u
theorem walk_zip3 {K : PySem.W.Frag} {a b c : Addr} {xs ys zs : List V} (ly : ys.length = xs.length) (lz : zs.length = xs.length) : Walk (ItzT3 K a b c) xs.length (fun H => SqT K H a xs ∧ SqT K H b ys ∧ SqT K H c zs) (YTrip (fun i => xs[i]?) (fun i => ys[i]?) (fun i => zs[i]?)) where
  goes := fun i H hi h => ⟨xs, ys, zs, h.1, h.2.1, h.2.2, ly, lz, hi⟩
  stops := fun H h => ⟨xs, ys, zs, h.1, h.2.1, h.2.2, ly, lz, rfl⟩
  yields := fun i H x H' hi h ⟨T, u, v, w, e1, e2, e3, e4, e5, e6⟩ => ⟨T, u, v, w, e1, e2, e3, e4 xs h.1, e5 ys h.2.1, e6 zs h.2.2⟩
end Pk
end
section
set_option maxHeartbeats 1000000
/-! zip of two tuples and a list of one length; two ways to walk. -/
namespace Pk
open PySem PySem.Spec PyProof.Rows L2
theorem listInj {X : Cx} {pins : List (Addr × Obj)} {σ : L2.St} {H : Hp} {s : Shared} {a : Addr} {xs ys : List V} (I : L2.Inv X pins σ H s) (h1 : SqL X.K H a xs) (h2 : SqL X.K H a ys) : xs = ys := I.list_inj h1 h2
/-- walked one way or the other -/
theorem pi_or {X : Cx} {tg e : Expr} {t u : TI} (h1 : PI X tg e t) (h2 : PI X tg e u) : PI X tg e (fun σ H R => t σ H R ∨ u σ H R) := ⟨fun pins s σ H R I h => h.elim (h1.run pins s σ H R I) (h2.run pins s σ H R I)⟩
def ItzL3 (K : PySem.W.Frag) (a b c : Addr) : It :=
  ⟨fun i H => ∃ xs ys zs : List V, SqT K H a xs ∧ SqT K H b ys ∧ SqL K H c zs ∧ ys.length = xs.length ∧ zs.length = xs.length ∧ i < xs.length,
    fun i H v H' => ∃ T x y u, v = .ref T ∧ H T = none ∧ H' = upd H T (.tup [x, y, u]) ∧ (∀ xs, SqT K H a xs → xs[i]? = some x) ∧ (∀ ys, SqT K H b ys → ys[i]? = some y) ∧ ∀ zs, SqL K H c zs → zs[i]? = some u,
    fun i H => ∃ xs ys zs : List V, SqT K H a xs ∧ SqT K H b ys ∧ SqL K H c zs ∧ ys.length = xs.length ∧ zs.length = xs.length ∧ i = xs.length⟩
theorem turn_zipL {P : Program} {w : World} {K : PySem.W.Frag} {elts : List Expr} {kk : Nat} {tpos : Pos} {a b c z TI TO i1 i2 i3 : Addr} (S : ZipSep3 z TI TO i1 i2 i3 [i1, a] [i2, b] [i3, c]) (n1 : a ≠ i1) (n2 : b ≠ i2) (n3 : c ≠ i3) :
    Turn P w K (.Tuple elts kk tpos) (ItzL3 K a b c) [z, TI, TO, i1, i2, i3] z (fun i h => IsZip h z TI TO .none ∧ IsTupOf3 h TI (.ref i1) (.ref i2) (.ref i3) ∧ (∃ x y u, IsTupOf3 h TO x y u) ∧ h.IsTupleIter i1 a i ∧ h.IsTupleIter i2 b i ∧ h.IsListIter i3 c i) where
  mem := by simp
  obj := fun i h st d hd => by
    obtain ⟨hz, hTI, ⟨x, y, u, hTO⟩, ⟨o1, e1, _, d1⟩, ⟨o2, e2, _, d2⟩, ⟨o3, e3, _, d3⟩⟩ := st
    have e' : d = z ∨ d = TI ∨ d = TO ∨ d = i1 ∨ d = i2 ∨ d = i3 := by simpa using hd
    rcases e' with q | q | q | q | q | q
    · rw [q]; exact ⟨_, hz, fun v q => nomatch q⟩
    · rw [q]; exact ⟨_, hTI, fun v q => nomatch q⟩
    · rw [q]; exact ⟨_, hTO, fun v q => nomatch q⟩
    · rw [q]; exact ⟨o1, e1, fun v q => by rw [d1] at q; cases q⟩
    · rw [q]; exact ⟨o2, e2, fun v q => by rw [d2] at q; cases q⟩
    · rw [q]; exact ⟨o3, e3, fun v q => by rw [d3] at q; cases q⟩
  keep := fun i h h' st k => by
    obtain ⟨hz, hTI, ⟨x, y, u, hTO⟩, h1, h2, h3⟩ := st
    exact ⟨k z (by simp) _ hz, k TI (by simp) _ hTI, ⟨x, y, u, k TO (by simp) _ hTO⟩, h1.at fun o q => k i1 (by simp) o q, h2.at fun o q => k i2 (by simp) o q, h3.at fun o q => k i3 (by simp) o q⟩
  item := by
    intro X hP hw hK hc i pins s σ H E I hf st hg
    subst hP hw hK
    obtain ⟨hz, hTI, hTO, h1, h2, h3⟩ := st
    obtain ⟨xs, ys, zs, hqx, hqy, hqz, ly, lz, hi⟩ := hg
    obtain ⟨its, rv, p, _⟩ := I.tuple hqx
    obtain ⟨its2, rv2, p2, _⟩ := I.tuple hqy
    obtain ⟨its3, rv3, p3, _⟩ := I.list hqz
    have e1 := rv.length
    have e2 := rv2.length
    have e3 := rv3.length
    have hh : X.A.in1.handled = none := I.ok.hd hc
    refine (GoesN.zip3 S (Draws.tuple hh i1 a n1 its.toArray) (Draws.tuple hh i2 b n2 its2.toArray) (Draws.list hh i3 c n3 its3.toArray)).goes i s _ E (by simp only [List.size_toArray]; omega) ⟨hz, hTI, hTO, ⟨h1, p⟩, ⟨h2, p2⟩, ⟨h3, p3.isList⟩⟩ ?_
    rintro v h' tk ⟨T, vx, vy, vu, rfl, hT, px, py, pu, tT⟩ ⟨z', TI', TO', ⟨h1', _⟩, ⟨h2', _⟩, ⟨h3', _⟩⟩ hk _
    obtain ⟨x, hx, rx⟩ := backV rv (show its[i]? = some vx by simpa using px)
    obtain ⟨y, hy, ry⟩ := backV rv2 (show its2[i]? = some vy by simpa using py)
    obtain ⟨u, hu, ru⟩ := backV rv3 (show its3[i]? = some vu by simpa using pu)
    have new : ObjOk X.prog X.w (upd H T (.tup [x, y, u])) h' T (.tup [x, y, u]) :=
      ⟨by show 3 ≤ sizeLine; decide, [vx, vy, vu], .cons rx (.cons ry (.cons ru .nil)), tT⟩
    have I1 : Inv X pins σ (upd H T (.tup [x, y, u])) { s with heap := h', toks := tk } :=
      I.turnedNew (t' := tk) (ch := [z, TI, TO, i1, i2, i3]) (fun d o hb q => hk d o (fun q' => hb (by simp at q' ⊢; rcases q' with q' | q' | q' | q' | q' <;> simp [q'])) q) hf hT new
    refine ⟨.ref T, _, I1, rfl, ⟨T, x, y, u, rfl, I.hok.fresh hT, rfl, fun l hl => by rw [I.tuple_inj hl hqx]; exact hx, fun l hl => by rw [I.tuple_inj hl hqy]; exact hy, fun l hl => by rw [listInj I hl hqz]; exact hu⟩, ⟨z', TI', TO', h1', h2', h3'⟩, fun d hdm => ?_⟩
    have hlt : d < s.heap.objs.size := by
      have e' : d = z ∨ d = TI ∨ d = TO ∨ d = i1 ∨ d = i2 ∨ d = i3 := by simpa using hdm
      obtain ⟨_, _, _, hTO⟩ := hTO
      rcases e' with q | q | q | q | q | q
      · rw [q]; exact Heap.lt_size hz
      · rw [q]; exact Heap.lt_size hTI
      · rw [q]; exact Heap.lt_size hTO
      · rw [q]; obtain ⟨_, e1, _⟩ := h1; exact Heap.lt_size e1
      · rw [q]; obtain ⟨_, e2, _⟩ := h2; exact Heap.lt_size e2
      · rw [q]; obtain ⟨_, e3, _⟩ := h3; exact Heap.lt_size e3
    rw [upd_ne (Nat.ne_of_lt (Nat.lt_of_lt_of_le hlt hT))]
    exact (hf d hdm).1
  done := by
    intro X hP hw hK hc i pins s σ H E I hf st hg
    subst hP hw hK
    obtain ⟨hz, hTI, hTO, h1, h2, h3⟩ := st
    obtain ⟨xs, ys, zs, hqx, hqy, hqz, ly, lz, hi⟩ := hg
    obtain ⟨its, rv, p, _⟩ := I.tuple hqx
    obtain ⟨its2, rv2, p2, _⟩ := I.tuple hqy
    obtain ⟨its3, rv3, p3, _⟩ := I.list hqz
    have e1 := rv.length
    have e2 := rv2.length
    have e3 := rv3.length
    have hh : X.A.in1.handled = none := I.ok.hd hc
    have en : i = min (min its.toArray.size its2.toArray.size) its3.toArray.size := by simp only [List.size_toArray]; omega
    subst en
    refine (GoesN.zip3 (elts := elts) (x1 := kk) (pos := tpos) S (Draws.tuple hh i1 a n1 its.toArray) (Draws.tuple hh i2 b n2 its2.toArray) (Draws.list hh i3 c n3 its3.toArray)).stops s _ E ⟨hz, hTI, hTO, ⟨h1, p⟩, ⟨h2, p2⟩, ⟨h3, p3.isList⟩⟩ ?_
    intro h' tk hk _
    exact I.turnedL (t' := tk) (ch := [z, TI, TO, i1, i2, i3]) (fun d o hb q => hk d o (fun q' => hb (by simp at q' ⊢; rcases q' with q' | q' | q' | q' | q' <;> simp [q'])) q) hf
  self := fun A i s Q E st h => wpAny_pyIter_zip st.1 h
def iZipL (K : PySem.W.Frag) (ta : TA) : TI := fun σ H R => ta σ H fun vs H1 => ∃ (a b c : Addr) (xs ys zs : List V), vs = [.ref a, .ref b, .ref c] ∧ SqT K H1 a xs ∧ SqT K H1 b ys ∧ SqL K H1 c zs ∧ R (ItzL3 K a b c) H1
theorem pi_zipL {X : Cx} {e e2 e3 : Expr} {ta : TA} {p pos tpos : Pos} {elts : List Expr} {kk : Nat} (hg : Gl X "zip") (hm : X.mg "zip" = none) (ha : PA X [e, e2, e3] ta)
    (hs : starEach [e, e2, e3] X.env = (false, eval e X.env) :: starEach [e2, e3] X.env := by rfl) (hpl : (backTo pos (starEach [e2, e3] X.env)).any (·.1) = false := by rfl) :
    PI X (.Tuple elts kk tpos) (.Call (.Name "zip" p) [e, e2, e3] [] pos) (iZipL X.K ta) := by
  refine ⟨fun pins s σ H R I h => ?_⟩
  refine Call_ (ld_blt I hg hm PyProof.Rows.boot_zip (PyProof.Rows.callWith_type1 (thn (ha.run pos pins s σ H _ I h) fun us s1 ⟨vs, H1, I1, r1, q1⟩ => ?_) hs hpl))
  obtain ⟨a, b, c, xs, ys, zs, ex, hqx, hqy, hqz, q⟩ := q1
  subst ex
  cases r1 with
  | cons r rr =>
  cases rr with
  | cons r' rr =>
  cases rr with
  | cons r'' rr =>
  cases rr
  cases r
  cases r'
  cases r''
  obtain ⟨its, rv, p1, _⟩ := I1.tuple hqx
  obtain ⟨its2, rv2, p2, _⟩ := I1.tuple hqy
  obtain ⟨its3, rv3, p3, _⟩ := I1.list hqz
  have l1 : a < s1.heap.objs.size := let ⟨_, e, _⟩ := p1; Heap.lt_size e
  have l2 : b < s1.heap.objs.size := let ⟨_, e, _⟩ := p2; Heap.lt_size e
  have l3 : c < s1.heap.objs.size := let ⟨_, e, _⟩ := p3.isList; Heap.lt_size e
  refine zip_begins3 (begins_tuple a its.toArray) (begins_tuple b its2.toArray) (begins_list c its3.toArray) p1 p2 p3.isList fun h' hz hTI hTO h1 h2 h3 hsz hk => wpAny_pyIter_zip hz ?_
  have I2 : Inv X pins σ H1 { s1 with heap := h' } := I1.kept (t' := s1.toks) hk
  have one : ∀ {q n : Addr}, q < n → ∀ d ∈ [q], d < n := fun h d hd => by rw [List.mem_singleton.mp hd]; exact h
  refine ⟨s1.heap.objs.size + 5, [s1.heap.objs.size + 5, s1.heap.objs.size + 3, s1.heap.objs.size + 4, s1.heap.objs.size, s1.heap.objs.size + 1, s1.heap.objs.size + 2], _, _, H1, rfl, I2, turn_zipL (zip_sep3 (one l1) (one l2) (one l3)) (Nat.ne_of_lt l1) (Nat.ne_of_lt (Nat.lt_succ_of_lt l2)) (Nat.ne_of_lt (Nat.lt_succ_of_lt (Nat.lt_succ_of_lt l3))), ⟨hz, hTI, ⟨_, _, _, hTO⟩, ⟨_, h1, rfl, rfl⟩, ⟨_, h2, rfl, rfl⟩, ⟨_, h3, rfl, rfl⟩⟩, fun d hdm => ?_, q⟩
  have hle : s1.heap.objs.size ≤ d := by
    have e' : d = s1.heap.objs.size + 5 ∨ d = s1.heap.objs.size + 3 ∨ d = s1.heap.objs.size + 4 ∨ d = s1.heap.objs.size ∨ d = s1.heap.objs.size + 1 ∨ d = s1.heap.objs.size + 2 := by simpa using hdm
    rcases e' with z | z | z | z | z | z <;> rw [z] <;> first | exact Nat.le_add_right _ _ | exact Nat.le_refl _
  exact I1.fpOk hle (I1.hok.fresh hle)
theorem walk_zipL {K : PySem.W.Frag} {a b c : Addr} {xs ys zs : List V} (ly : ys.length = xs.length) (lz : zs.length = xs.length) : Walk (ItzL3 K a b c) xs.length (fun H => SqT K H a xs ∧ SqT K H b ys ∧ SqL K H c zs) (YTrip (fun i => xs[i]?) (fun i => ys[i]?) (fun i => zs[i]?)) where
  goes := fun i H hi h => ⟨xs, ys, zs, h.1, h.2.1, h.2.2, ly, lz, hi⟩
  stops := fun H h => ⟨xs, ys, zs, h.1, h.2.1, h.2.2, ly, lz, rfl⟩
  yields := fun i H x H' hi h ⟨T, u, v, w, e1, e2, e3, e4, e5, e6⟩ => ⟨T, u, v, w, e1, e2, e3, e4 xs h.1, e5 ys h.2.1, e6 zs h.2.2⟩
end Pk
end
/-! A dict display of one pair whose key is a tuple. -/
namespace Pk
open PySem PySem.Spec PyProof.Rows L2
def tDispT (tk tv : TE) : TE := fun σ H Q => ∀ p, H p = none → tk σ (upd H p (.dT [])) fun x H1 => tv σ H1 fun y H2 => H2 p = some (.dT []) ∧ ∃ (b : Addr) (k : List Key), x = .ref b ∧ H2 b = some (.tup (k.map kV)) ∧ Q (.ref p) (upd H2 p (.dT [(k, y)]))
theorem pe_dispT {X : Cx} {pos : Pos} {k v : Expr} {tk tv : TE} (hu : X.A.units + 1 < cLine) (hk : PE X k tk) (hv : PE X v tv) : PE X (.Dict [some k] [v] pos) (tDispT tk tv) := by
  refine ⟨fun pins s σ H Q I q => ?_⟩
  have hn := I.hok.fresh (Nat.le_refl s.heap.objs.size)
  have I1 := I.laid (a := s.heap.objs.size) (o := .dT []) (h' := s.heap.push { cls := .type "dict", data := .dict #[] }) (t' := s.toks) (fun _ _ q => Heap.get?_push_of_some _ q) (Nat.le_refl _) (dt_empty s.heap I.big)
  rw [arm_eval_Dict, zip_pairTrees [some k] [v] X.env pos rfl rfl, dictDisplay_pairs (pairTrees [some k] [v] X.env pos) (by intro h; have q := congrArg List.length h; rw [pairTrees_length _ _ _ _ rfl rfl] at q; cases q) (by rw [pairTrees_length _ _ _ _ rfl rfl]; show 1 < 17; decide)]
  refine wpAny_bind (wpAny_standAt (wpAny_bind (wpAny_subDictH (knd := tupleKind (mixKind X.prog X.w)) (by show X.A.units < cLine; omega) (by rw [pairTrees_length _ _ _ _ rfl rfl]; show 1 ≤ 15; decide) ?_)))
  refine pairTrees_cons_walk (thn (hk.run pins _ σ _ _ I1 (q _ hn)) fun u s1 ⟨x, H1, I1', rx, q1⟩ => thn (hv.run pins s1 σ H1 _ I1' q1) fun w2 s2 ⟨y, H2, I2, ry, e, b, kk, ex, eb, q2⟩ => pairTrees_nil_walk ?_)
  subst ex
  cases (show u = Value.ref b from rx)
  obtain ⟨z, hd, xs, rel, dd⟩ := dt_of I2.hok e
  cases rel
  refine ⟨[(kk, b, w2)], ⟨rfl, rfl, key_of I2.hok eb, trivial⟩, dd, fun h' tk dd' hs => wpAny_pure ⟨.ref s.heap.objs.size, _, ?_, rfl, q2⟩⟩
  obtain ⟨q, es, ep, hq, h2, h3, h4, _, h5⟩ := dd'
  refine d_write I2 (by rw [e]; exact True.intro) hs ⟨q, hq⟩ ⟨by rw [sizeLine_eq]; show 1 ≤ 16777216; decide, hd, _, ((KT.put (.nil : KT H2 [] []) kk eb ry)).keeps fun c ys ec => ?_, q, es, ep, hq, h2, h3, h4, h5⟩
  rw [upd_ne (ne_of ec e (fun z => nomatch z))]
  exact ec
end Pk
section
set_option maxHeartbeats 4000000
/-! sorted(a list of tuples of numbers), of any length: the rising list. -/
namespace Pk
open PySem PySem.Spec PyProof.Rows L2
/-- x ahead of y -/
def lexL : List Int → List Int → Bool
  | [], [] => false
  | [], _ :: _ => true
  | _ :: _, [] => false
  | x :: xs, y :: ys => if x = y then lexL xs ys else decide (x < y)
theorem lexL_asym : ∀ (x y : List Int), lexL x y = true → lexL y x = false
  | [], [], h => by cases h
  | [], _ :: _, _ => rfl
  | _ :: _, [], h => by cases h
  | x :: xs, y :: ys, h => by
    unfold lexL at h ⊢
    by_cases c : x = y
    · rw [if_pos c] at h
      rw [if_pos c.symm]
      exact lexL_asym xs ys h
    · rw [if_neg c, decide_eq_true_eq] at h
      rw [if_neg fun q => c q.symm]
      exact decide_eq_false (by omega)
theorem lexL_tot : ∀ (x y : List Int), lexL x y = false → lexL y x = false → x = y
  | [], [], _, _ => rfl
  | [], _ :: _, h, _ => by cases h
  | _ :: _, [], _, h => by cases h
  | x :: xs, y :: ys, h1, h2 => by
    unfold lexL at h1 h2
    by_cases c : x = y
    · rw [if_pos c] at h1
      rw [if_pos c.symm] at h2
      rw [c, lexL_tot xs ys h1 h2]
    · rw [if_neg c, decide_eq_false_iff_not] at h1
      rw [if_neg fun q => c q.symm, decide_eq_false_iff_not] at h2
      omega
theorem lexL_trans : ∀ (x y z : List Int), lexL x y = true → lexL y z = true → lexL x z = true
  | [], [], _, h, _ => by cases h
  | [], _ :: _, [], _, h => by cases h
  | [], _ :: _, _ :: _, _, _ => rfl
  | _ :: _, [], _, h, _ => by cases h
  | _ :: _, _ :: _, [], _, h => by cases h
  | x :: xs, y :: ys, z :: zs, h1, h2 => by
    unfold lexL at h1 h2 ⊢
    by_cases c : x = y
    · rw [if_pos c] at h1
      subst c
      by_cases d : x = z
      · rw [if_pos d] at h2 ⊢
        exact lexL_trans xs ys zs h1 h2
      · rw [if_neg d] at h2 ⊢
        exact h2
    · rw [if_neg c, decide_eq_true_eq] at h1
      by_cases d : y = z
      · subst d
        rw [if_neg c]
        exact decide_eq_true h1
      · rw [if_neg d, decide_eq_true_eq] at h2
        rw [if_neg (by omega)]
        exact decide_eq_true (by omega)
theorem lexL_swo {α : Type} (k : α → List Int) : SrtO.Swo fun x y => lexL (k x) (k y) := by
  refine ⟨fun x y h => lexL_asym _ _ h, fun x y z h1 h2 => ?_⟩
  cases h : lexL (k z) (k x) with
  | false => rfl
  | true =>
    exfalso
    cases a : lexL (k y) (k z) with
    | true =>
      rw [lexL_trans _ _ _ a h] at h1
      cases h1
    | false =>
      have e := lexL_tot _ _ a h2
      rw [e, h] at h1
      cases h1
def IntsV (us : List Value) (is : List Int) : Prop := PySem.Paired (fun u x => ∃ t, u = Value.int x t) us is
def IsTL (h : Heap) (v : Value) (is : List Int) : Prop := ∃ a o us n, v = .ref a ∧ h.get? a = some o ∧ o.cls = .type "tuple" ∧ o.data = .seq us.toArray n ∧ IntsV us is ∧ is ≠ []
section
variable {prog : Program} {w : World} {A : Around} {E : Value → Shared → Prop} {s : Shared}
theorem kat_ints {fin : Bool} : ∀ {us vs : List Value} {is js : List Int} (i : Nat), IntsV us is → IntsV vs js → fin = decide (is.length < js.length) → PySem.W.KatLex prog w A true fin (fun r s' => s' = s ∧ r = lexL is js) (us.zip vs) i s
  | _, _, _, _, i, .nil, .nil, hf => PySem.W.kat_nil ⟨rfl, hf⟩
  | _, _, _, _, i, .nil, .cons _ _, hf => PySem.W.kat_nil ⟨rfl, by rw [hf]; simp [lexL]⟩
  | _, _, _, _, i, .cons _ _, .nil, hf => PySem.W.kat_nil ⟨rfl, by rw [hf]; simp [lexL]⟩
  | u :: us, v :: vs, x :: is, y :: js, i, .cons h1 t1, .cons h2 t2, hf => by
    obtain ⟨t, rfl⟩ := h1
    obtain ⟨t', rfl⟩ := h2
    rw [List.zip_cons_cons]
    refine PySem.W.kat_cons (SeqAt.EqAt.int_int x t y t' prog w _ _ ?_)
    refine PySem.W.kat_go (fun e1 => ?_) (fun e1 => ?_)
    · have ex : x = y := by simpa using e1
      have e2 : lexL (x :: is) (y :: js) = lexL is js := if_pos ex
      rw [e2]
      exact PySem.W.kat_yes (kat_ints (i + 1) t1 t2 (by rw [hf]; simp))
    · have ex : ¬ x = y := by simpa using e1
      have e2 : lexL (x :: is) (y :: js) = decide (x < y) := if_neg ex
      rw [e2]
      exact PySem.W.kat_no (TS.oneLt_ints _ ⟨rfl, rfl⟩)
theorem tl_firsts {h : Heap} : ∀ {vs : List Value} {k : Value → List Int}, (∀ v ∈ vs, IsTL h v (k v)) → ∃ fs : List Value, PySem.W.KatTups h vs fs ∧ fs.length = vs.length ∧ ∀ f ∈ fs, ∃ x t, f = Value.int x t
  | [], _, _ => ⟨[], PySem.W.KatTups.nil, rfl, fun _ hm => by simp at hm⟩
  | v :: vs, k, hp => by
    obtain ⟨fs, h1, h2, h3⟩ := tl_firsts (vs := vs) (k := k) fun v' hm => hp v' (List.mem_cons_of_mem _ hm)
    obtain ⟨a, o, us, n, e, ho, hc, hd, hi, hne⟩ := hp v (List.mem_cons_self ..)
    subst e
    generalize k (Value.ref a) = is at hi hne
    cases hi with
    | nil => exact absurd rfl hne
    | @cons u x us is hu ht =>
      obtain ⟨t, rfl⟩ := hu
      refine ⟨.int x t :: fs, PySem.W.KatTups.cons ho hc hd (by simp) h1, by rw [List.length_cons, List.length_cons, h2], fun f hm => ?_⟩
      rcases List.mem_cons.mp hm with rfl | hm
      · exact ⟨x, t, rfl⟩
      · exact h3 f hm
theorem tl_cmp {vs : List Value} {k : Value → List Int} (hp : ∀ v ∈ vs, IsTL s.heap v (k v)) : SrtO.Cmp prog w A s (tuples' true) (fun p => p.1 ∈ vs) (SrtO.lt2 fun v u => lexL (k v) (k u)) := by
  intro p q hm hm'
  obtain ⟨a, o, us, n, e, ho, hc, hd, hi, _⟩ := hp _ hm
  obtain ⟨a', o', us', n', e', ho', hc', hd', hi', _⟩ := hp _ hm'
  show wpAny (model prog w) A (keyLt' (tuples' true) p.1 q.1) (fun r s' => s' = s ∧ r = lexL (k p.1) (k q.1)) (fun _ _ => False) s
  generalize k p.1 = is at hi ⊢
  generalize k q.1 = js at hi' ⊢
  rw [e, e']
  refine PySem.W.kat_lt ho hd ho' hd' ?_
  rw [List.size_toArray, List.size_toArray]
  exact kat_ints 0 hi hi' (by rw [PySem.Paired.length hi, PySem.Paired.length hi'])
theorem tl_sortable {a : Addr} {vs : List Value} {k : Value → List Int} (h0 : 0 < vs.length) (hp : ∀ v ∈ vs, IsTL s.heap v (k v)) (ha : ∀ o, s.heap.get? a = some o → o.cls ≠ .type "tuple") : SrtO.SortableO prog w A s a vs fun v u => lexL (k v) (k u) := by
  intro h' keep
  have hp' : ∀ v ∈ vs, IsTL h' v (k v) := fun v hm => by
    obtain ⟨b, o, us, n, e, ho, hc, r⟩ := hp v hm
    exact ⟨b, o, us, n, e, keep b o (fun z => by subst z; exact ha o ho hc) ho, hc, r⟩
  obtain ⟨fs, h1, h2, h3⟩ := tl_firsts hp'
  refine ⟨tuples' true, fun Q E hq => ?_, tl_cmp hp'⟩
  refine PySem.W.kat_kind (T := .type "int") h1 (by omega) (fun f hm => ?_) (by rfl) ?_
  · obtain ⟨x, t, rfl⟩ := h3 f hm
    exact PySem.W.Looks.now
  · have e : (Value.type "int" != Value.type "tuple") = true := by first | decide +kernel | rfl | decide
    rw [e]
    exact hq
theorem sorted_tl {l : Addr} {vs : List Value} {k : Value → List Int} {Q : Value → Shared → Prop} (hl : s.heap.IsList l vs.toArray) (hz : vs.length ≤ sizeLine) (hp : ∀ v ∈ vs, IsTL s.heap v (k v))
    (h : ∀ (h' : Heap) (d : Addr) (out : List Value), SrtO.Srtd (fun v u => lexL (k v) (k u)) out → SrtO.Stb (fun v u => lexL (k v) (k u)) out vs → (∀ b o, s.heap.get? b = some o → h'.get? b = some o) → s.heap.objs.size ≤ d → (∃ n, h'.get? d = some (seqObj "list" out.toArray n)) → Q (.ref d) { s with heap := h' }) :
    wpAny (model prog w) A (call (.builtin "sorted") [.ref l]) Q E s := by
  refine SrtO.sorted_ord (lexL_swo k) hl hz (fun h2 h₁ a ha kk => ?_) fun out hs hb => ?_
  · refine tl_sortable (s := { s with heap := h₁ }) (by omega) (fun v hm => ?_) fun o e => ?_
    · obtain ⟨b, o, us, n, e, ho, r⟩ := hp v hm
      exact ⟨b, o, us, n, e, (kk b o ho).2, r⟩
    · have e' : some o = some (seqObj "list" vs.toArray 0) := e.symm.trans ha
      cases e'
      intro c
      exact absurd (Value.type.inj c) (by decide)
  · exact h _ _ out hs hb (fun b o e => PyProof.Rows.sortedAll_old e) (Nat.le_succ _) (PyProof.Rows.sortedAll_at s.heap vs out.toArray)
end
section
variable {X : Cx}
abbrev ltL (k : V → List Int) (x y : V) : Bool := lexL (k x) (k y)
theorem vals_ints : ∀ {is : List Int} {us : List Value}, Vals (is.map V.int) us → IntsV us is
  | [], _, .nil => .nil
  | _ :: is, _, .cons h t => .cons h (vals_ints (is := is) t)
/-- sorted(xs), xs a list of tuples of numbers (k says which, none empty), of any length -/
def rSortedTL (K : PySem.W.Frag) : List V → Hp → VK → Prop := fun vs H Q => ∃ (a : Addr) (xs : List V) (k : V → List Int), vs = [V.ref a] ∧ SqL K H a xs ∧ (∀ x ∈ xs, ∃ t, x = V.ref t ∧ H t = some (.tup ((k x).map V.int)) ∧ k x ≠ []) ∧
  ∀ ys p, SrtO.Srtd (ltL k) ys → SrtO.Stb (ltL k) ys xs → H p = none → Q (.ref p) (upd H p (.lst ys))
theorem cr_sortedTL : CallR X (.builtin "sorted") (rSortedTL X.K) := by
  intro pins s σ H vs us Q I r h
  obtain ⟨a, xs, k, rfl, hs, hx, q⟩ := h
  obtain ⟨its, rv, hl, hz⟩ := I.list hs
  obtain ⟨u, rfl, ru⟩ := vals1 r
  obtain rfl : u = Value.ref a := ru
  obtain ⟨e1, e2⟩ := L2.refs_back rv fun x m => by
    obtain ⟨t, e, _⟩ := hx x m
    exact ⟨t, e⟩
  refine sorted_tl (k := fun u => k (L2.backV u)) hl.isList (by rw [← rv.length]; exact hz) (fun v hv => ?_) fun h' d out h1 h2 kp hd hn => ?_
  · obtain ⟨t, rfl⟩ := e2 v hv
    have hm : V.ref t ∈ xs := by rw [e1]; exact List.mem_map.mpr ⟨_, hv, rfl⟩
    obtain ⟨t', e, ht, ne⟩ := hx _ hm
    cases e
    obtain ⟨_, its2, r2, o, ho, hc, n, hd⟩ := I.hok _ _ ht
    exact ⟨t, o, its2, n, rfl, ho, hc, hd, vals_ints r2, ne⟩
  · have h3 : ∀ u ∈ out, ∃ a, u = Value.ref a := fun u hu => e2 u (h2.perm.mem_iff.mp hu)
    obtain ⟨n, hn⟩ := hn
    have hb : SrtO.Stb (ltL k) (out.map L2.backV) xs := by
      rw [e1]
      exact SrtO.Stb.map (lexL_swo k) L2.backV h2
    refine ⟨.ref d, upd H d (.lst (out.map L2.backV)), I.laid (t' := s.toks) kp hd ⟨?_, out, n, L2.vals_back h3, hn⟩, rfl, q _ d (SrtO.srtd_map h1) hb (I.hok.fresh hd)⟩
    rw [hb.len]
    exact hz
end
end Pk
end
section
set_option maxHeartbeats 1000000
/-! Numbers only: what is known, as a dict of tuples; sorted lists of standings; standings by dials and by names. -/
namespace Pk
open PySem PySem.Spec PyProof.Rows L2
def keyN (is : List Int) : List Key := is.map Sum.inl
theorem keyN_kV (is : List Int) : (keyN is).map kV = is.map V.int := by
  unfold keyN
  rw [List.map_map]
  rfl
theorem keyN_inj : ∀ {a b : List Int}, keyN a = keyN b → a = b
  | [], [], _ => rfl
  | [], _ :: _, h => by cases h
  | _ :: _, [], h => by cases h
  | x :: a, y :: b, h => by
    have h' : (Sum.inl x : Key) :: keyN a = Sum.inl y :: keyN b := h
    rw [List.cons.injEq] at h'
    rw [Sum.inl.inj h'.1, keyN_inj h'.2]
def knownT (fs : List (List Int)) : List (List Key × V) := fs.map fun is => (keyN is, .bl true)
theorem known_val (is : List Int) : ∀ fs : List (List Int), valV (knownT fs) (keyN is) = if is ∈ fs then some (.bl true) else none
  | [] => rfl
  | x :: fs => by
    show valV ((keyN x, V.bl true) :: knownT fs) (keyN is) = _
    by_cases c : x = is
    · rw [valV_pos (by rw [c]), if_pos (by rw [c]; exact List.mem_cons_self)]
    · rw [valV_neg (fun q => c (keyN_inj q)), known_val is fs]
      by_cases d : is ∈ fs
      · rw [if_pos d, if_pos (List.mem_cons_of_mem _ d)]
      · rw [if_neg d, if_neg (fun q => by
          rcases List.mem_cons.mp q with q | q
          · exact c q.symm
          · exact d q)]
theorem known_put {is : List Int} {fs : List (List Int)} (h : is ∉ fs) : putK (knownT fs) (keyN is) (.bl true) = knownT (fs ++ [is]) := by
  rw [putK_new _ (by rw [known_val, if_neg h])]
  unfold knownT
  rw [List.map_append]
  rfl
theorem known_len (fs : List (List Int)) : (knownT fs).length = fs.length := by
  unfold knownT
  rw [List.length_map]
theorem nodup_snoc {α : Type} {fs : List α} {x : α} (h : fs.Nodup) (hx : x ∉ fs) : (fs ++ [x]).Nodup := by
  rw [List.nodup_append]
  refine ⟨h, List.nodup_cons.mpr ⟨by simp, List.nodup_nil⟩, fun a ha b hb => ?_⟩
  rw [List.mem_singleton.mp hb]
  intro e
  exact hx (by rw [← e]; exact ha)
/-- a list of other ones is no longer than what holds it -/
theorem nodup_le {α : Type} [DecidableEq α] : ∀ {l m : List α}, l.Nodup → (∀ x ∈ l, x ∈ m) → l.length ≤ m.length
  | [], _, _, _ => Nat.zero_le _
  | x :: l, m, nd, h => by
    rw [List.nodup_cons] at nd
    have hx := h x List.mem_cons_self
    have ih := nodup_le (l := l) (m := m.erase x) nd.2 fun y hy => by
      rw [List.mem_erase_of_ne]
      · exact h y (List.mem_cons_of_mem _ hy)
      · intro e
        exact nd.1 (by rw [← e]; exact hy)
    rw [List.length_erase_of_mem hx] at ih
    have := List.length_pos_of_mem hx
    rw [List.length_cons]
    omega
/-- the rising list is one -/
theorem lex_uniq : ∀ {fs gs : List (List Int)}, SrtO.Srtd lexL fs → SrtO.Srtd lexL gs → fs.Nodup → gs.Nodup → (∀ x, x ∈ fs ↔ x ∈ gs) → fs = gs
  | [], [], _, _, _, _, _ => rfl
  | [], y :: gs, _, _, _, _, h => absurd ((h y).mpr List.mem_cons_self) (by simp)
  | x :: fs, [], _, _, _, _, h => absurd ((h x).mp List.mem_cons_self) (by simp)
  | x :: fs, y :: gs, s1, s2, n1, n2, h => by
    have s1' := List.pairwise_cons.mp s1
    have s2' := List.pairwise_cons.mp s2
    have e : x = y := by
      apply Classical.byContradiction
      intro ne
      have hx : x ∈ gs := by
        rcases List.mem_cons.mp ((h x).mp List.mem_cons_self) with q | q
        · exact absurd q ne
        · exact q
      have hy : y ∈ fs := by
        rcases List.mem_cons.mp ((h y).mpr List.mem_cons_self) with q | q
        · exact absurd q.symm ne
        · exact q
      exact ne (lexL_tot _ _ (s2'.1 x hx) (s1'.1 y hy))
    subst e
    rw [List.nodup_cons] at n1 n2
    rw [lex_uniq s1'.2 s2'.2 n1.2 n2.2 fun z => ?_]
    constructor
    · intro hz
      rcases List.mem_cons.mp ((h z).mp (List.mem_cons_of_mem _ hz)) with q | q
      · exact absurd (q ▸ hz) n1.1
      · exact q
    · intro hz
      rcases List.mem_cons.mp ((h z).mpr (List.mem_cons_of_mem _ hz)) with q | q
      · exact absurd (q ▸ hz) n2.1
      · exact q
/-- the numbers of a tuple that lies there -/
def numH (H : Hp) : V → List Int
  | .ref a => match H a with
    | some (.tup xs) => xs.map fun
      | .int i => i
      | _ => 0
    | _ => []
  | _ => []
def addrV : V → Addr
  | .ref a => a
  | _ => 0
theorem numH_at {H : Hp} {a : Addr} {is : List Int} (h : NumAt H a is) : numH H (.ref a) = is := by
  unfold numH
  unfold NumAt at h
  show (match H a with
    | some (.tup xs) => xs.map fun
      | .int i => i
      | _ => 0
    | _ => []) = is
  rw [h]
  show ((is.map V.int).map _) = is
  rw [List.map_map]
  exact List.map_id _
theorem numH_all {H : Hp} : ∀ {as : List Addr} {fs : List (List Int)}, PySem.Paired (NumAt H) as fs → (as.map V.ref).map (numH H) = fs
  | [], _, .nil => rfl
  | a :: as, _, .cons (b := is) (l₂ := fs) h t => by
    rw [List.map_cons, List.map_cons, numH_at h, numH_all t]
theorem numAt_mem {H : Hp} : ∀ {as : List Addr} {fs : List (List Int)}, PySem.Paired (NumAt H) as fs → ∀ x ∈ as.map V.ref, ∃ a, x = V.ref a ∧ NumAt H a (numH H x)
  | [], _, .nil, _, h => by cases h
  | a :: as, _, .cons (b := is) (l₂ := fs) h t, x, hx => by
    rw [List.map_cons] at hx
    rcases List.mem_cons.mp hx with rfl | hx
    · exact ⟨a, rfl, by rw [numH_at h]; exact h⟩
    · exact numAt_mem t x hx
theorem paired_refs {H : Hp} : ∀ {ys : List V}, (∀ x ∈ ys, ∃ a, x = V.ref a ∧ NumAt H a (numH H x)) → ys = (ys.map addrV).map V.ref ∧ PySem.Paired (NumAt H) (ys.map addrV) (ys.map (numH H))
  | [], _ => ⟨rfl, .nil⟩
  | x :: ys, h => by
    obtain ⟨a, rfl, ha⟩ := h x List.mem_cons_self
    obtain ⟨e, p⟩ := paired_refs (ys := ys) fun y hy => h y (List.mem_cons_of_mem _ hy)
    refine ⟨?_, ?_⟩
    · rw [List.map_cons, List.map_cons, ← e]
      rfl
    · rw [List.map_cons, List.map_cons]
      exact .cons ha p
/-- what sorted(list(found)) is -/
theorem told_sorted {H : Hp} {as : List Addr} {fs : List (List Int)} {ys : List V} (pr : PySem.Paired (NumAt H) as fs) (hs : SrtO.Srtd (ltL (numH H)) ys) (hb : SrtO.Stb (ltL (numH H)) ys (as.map V.ref)) :
    ∃ as2 fs2, ys = as2.map V.ref ∧ PySem.Paired (NumAt H) as2 fs2 ∧ SrtO.Srtd lexL fs2 ∧ fs2.Perm fs := by
  obtain ⟨e, p⟩ := paired_refs (H := H) (ys := ys) fun x hx => numAt_mem pr x (hb.perm.mem_iff.mp hx)
  refine ⟨ys.map addrV, ys.map (numH H), e, p, SrtO.srtd_map hs, ?_⟩
  rw [← numH_all pr]
  exact hb.perm.map _
/-- keys that lie as tuples -/
theorem keys_paired {H : Hp} : ∀ {fs : List (List Int)} {bs : List Addr}, IsKeys H (knownT fs) bs → PySem.Paired (NumAt H) bs fs
  | [], _, .nil => .nil
  | is :: fs, _, .cons (b := b) (l₂ := bs) h t => .cons (by
      show H b = some (.tup (is.map V.int))
      rw [← keyN_kV]
      exact h) (keys_paired (fs := fs) (bs := bs) t)
theorem zip_int : ∀ (ds : List PyData) (is : List Int), ds.zip (is.map PyData.int) = (ds.zip is).map fun p => (p.1, PyData.int p.2)
  | [], _ => by simp
  | _ :: _, [] => by simp
  | d :: ds, i :: is => by
    rw [List.map_cons, List.zip_cons_cons, List.zip_cons_cons, List.map_cons, zip_int ds is]
theorem span_numD {d : PyData} {i : Int} (h : inSpan d i) : numD d (.int i) = true := by
  unfold inSpan at h
  split at h
  · show wholeD _ _ (.int _) = true
    rw [wholeD_int, Bool.and_eq_true, decide_eq_true_eq, decide_eq_true_eq]
    exact h
  · exact h.elim
theorem atE_em (ds : List PyData) (is : List Int) : atE ds (.tuple (is.map .int)) = emN ds is := by
  show (ds.map nameOf).zip ((is.map PyData.int).map intOf) = _
  rw [List.map_map]
  show (ds.map nameOf).zip (is.map id) = _
  rw [List.map_id]
theorem brk_none {f : Str → Int} : ∀ {rs : List PyData} {k : Nat}, rs.all (ruleH f) = true → brk f k rs = []
  | [], _, _ => rfl
  | r :: rs, k, h => by
    rw [List.all_cons, Bool.and_eq_true] at h
    show (if ruleH f r = true then brk f (k + 1) rs else k :: brk f (k + 1) rs) = []
    rw [if_pos h.1]
    exact brk_none h.2
/-- of each dial and its number -/
theorem fOf_zip : ∀ {ds : List PyData} {is : List Int}, (ds.map nameOf).Nodup → ∀ p ∈ ds.zip is, fOf ds is (nameOf p.1) = p.2
  | [], _, _, p, hp => by simp at hp
  | _ :: _, [], _, p, hp => by simp at hp
  | d :: ds, i :: is, nd, p, hp => by
    rw [List.zip_cons_cons] at hp
    rw [List.map_cons, List.nodup_cons] at nd
    have e : ∀ y, fOf (d :: ds) (i :: is) y = if nameOf d = y then i else fOf ds is y := fun y => look_head (nameOf d, i) _ y
    rcases List.mem_cons.mp hp with rfl | hp
    · rw [e, if_pos rfl]
    · have hm := (List.of_mem_zip hp).1
      rw [e, if_neg (fun q => nd.1 (by rw [q]; exact List.mem_map.mpr ⟨p.1, hm, rfl⟩)), fOf_zip nd.2 p hp]
theorem find_dial {ds : List PyData} (nd : (ds.map nameOf).Nodup) {d : PyData} (h : d ∈ ds) : ds.find? (fun e => nameOf e == nameOf d) = some d := by
  induction ds with
  | nil => cases h
  | cons x ds ih =>
    rw [List.map_cons, List.nodup_cons] at nd
    rcases List.mem_cons.mp h with rfl | h
    · rw [List.find?_cons_of_pos (by simp)]
    · rw [List.find?_cons_of_neg]
      · exact ih nd.2 h
      · intro q
        have q' : nameOf x = nameOf d := by simpa using q
        exact nd.1 (by rw [q']; exact List.mem_map.mpr ⟨d, h, rfl⟩)
theorem ends_dial {ds : List PyData} (nd : (ds.map nameOf).Nodup) {d : PyData} (h : d ∈ ds) : endsOf ds (nameOf d) = endsD d := by
  unfold endsOf
  rw [find_dial nd h]
theorem span_ends {d : PyData} {i : Int} (h : DialG d) : inSpan d i ↔ (endsD d).1 ≤ i ∧ i ≤ (endsD d).2 := by
  obtain ⟨nm, way, lo, hi, up, dn, rfl, _⟩ := h
  exact Iff.rfl
/-- a dial and its number -/
theorem zip_of : ∀ {ds : List PyData} {is : List Int}, is.length = ds.length → ∀ d ∈ ds, ∃ i, (d, i) ∈ ds.zip is
  | [], _, _, _, h => by cases h
  | _ :: _, [], h, _, _ => by cases h
  | d :: ds, i :: is, hl, e, he => by
    rw [List.zip_cons_cons]
    rcases List.mem_cons.mp he with rfl | he
    · exact ⟨i, List.mem_cons_self⟩
    · obtain ⟨j, hj⟩ := zip_of (ds := ds) (is := is) (by simpa using hl) e he
      exact ⟨j, List.mem_cons_of_mem _ hj⟩
theorem good_of {ds rs : List PyData} {is : List Int} (hg : HouseG ds rs) (hl : is.length = ds.length) (hs : ∀ p ∈ ds.zip is, inSpan p.1 p.2) (hr : ∀ r ∈ rs, ruleH (lookE (emN ds is)) r = true) : GoodN ds rs is := by
  refine ⟨hl, fun z hz => ?_, fun r h => ?_⟩
  · obtain ⟨d, hd, rfl⟩ := List.mem_map.mp hz
    obtain ⟨i, hi⟩ := zip_of hl d hd
    rw [fOf_zip hg.nd _ hi, ends_dial hg.nd hd]
    exact (span_ends (hg.dials d hd)).mp (hs _ hi)
  · rw [← rule_rul (hg.rules r h)]
    exact hr r h
theorem GoodN.spans {ds rs : List PyData} {is : List Int} (hg : HouseG ds rs) (g : GoodN ds rs is) : ∀ p ∈ ds.zip is, inSpan p.1 p.2 := fun p hp => by
  have hd := (List.of_mem_zip hp).1
  have q := g.span _ (List.mem_map.mpr ⟨p.1, hd, rfl⟩)
  rw [fOf_zip hg.nd _ hp, ends_dial hg.nd hd] at q
  exact (span_ends (hg.dials _ hd)).mpr q
theorem GoodN.nums {ds rs : List PyData} {is : List Int} (hg : HouseG ds rs) (g : GoodN ds rs is) : numsD ds (.tuple (is.map .int)) = true := by
  show (decide ((is.map PyData.int).length = ds.length) && ((ds.zip (is.map PyData.int)).all fun p => numD p.1 p.2)) = true
  rw [Bool.and_eq_true, decide_eq_true_eq, List.length_map, List.all_eq_true, zip_int]
  refine ⟨g.len, fun p hp => ?_⟩
  obtain ⟨q, hq, rfl⟩ := List.mem_map.mp hp
  exact span_numD (g.spans hg q hq)
theorem GoodN.alls {ds rs : List PyData} {is : List Int} (hg : HouseG ds rs) (g : GoodN ds rs is) : allD ds rs (.tuple (is.map .int)) = true := by
  unfold allD
  rw [atE_em, List.all_eq_true]
  intro r hr
  rw [rule_rul (hg.rules r hr)]
  exact g.rule r hr
theorem GoodN.stand {ds rs : List PyData} {is : List Int} (hg : HouseG ds rs) (g : GoodN ds rs is) : standD ds rs (.tuple (is.map .int)) = true := by
  unfold standD brkD
  rw [g.nums hg, brk_none (g.alls hg)]
  rfl
theorem Rch.good {ds rs : List PyData} {str : Int} {is js : List Int} (g : GoodN ds rs is) (h : Rch ds rs str is js) : GoodN ds rs js := by
  cases h with
  | base => exact g
  | step _ g _ => exact g
end Pk
end
section
set_option maxHeartbeats 1000000
/-! Numbers only: all numbers of a house, in their order. -/
namespace Pk
open PySem PySem.Spec PyProof.Rows L2
/-- lo, lo + 1 .. , n of them -/
def upI (lo : Int) : Nat → List Int
  | 0 => []
  | n + 1 => upI lo n ++ [lo + (n : Nat)]
theorem upI_len (lo : Int) : ∀ n, (upI lo n).length = n
  | 0 => rfl
  | n + 1 => by
    show (upI lo n ++ [_]).length = _
    rw [List.length_append, upI_len lo n]
    rfl
theorem mem_upI {lo x : Int} : ∀ {n : Nat}, x ∈ upI lo n ↔ lo ≤ x ∧ x < lo + (n : Nat)
  | 0 => by
    show x ∈ [] ↔ _
    constructor
    · intro h
      cases h
    · intro h
      omega
  | n + 1 => by
    show x ∈ upI lo n ++ [_] ↔ _
    rw [List.mem_append, mem_upI, List.mem_singleton]
    omega
/-- each number of a dial -/
def spanL (d : PyData) : List Int := upI (endsD d).1 ((endsD d).2 + 1 - (endsD d).1).toNat
theorem mem_spanL {d : PyData} {x : Int} : x ∈ spanL d ↔ (endsD d).1 ≤ x ∧ x ≤ (endsD d).2 := by
  unfold spanL
  rw [mem_upI]
  omega
def boxS (acc : List (List Int)) (d : PyData) : List (List Int) := acc.flatMap fun one => (spanL d).map fun n => one ++ [n]
def boxN (ds : List PyData) : List (List Int) := ds.foldl boxS [[]]
theorem boxN_more {ds : List PyData} {i : Nat} {d : PyData} (hd : ds[i]? = some d) : boxN (ds.take (i + 1)) = boxS (boxN (ds.take i)) d := by
  unfold boxN
  rw [take_more hd, List.foldl_append]
  rfl
theorem mem_boxS {acc : List (List Int)} {d : PyData} {js : List Int} : js ∈ boxS acc d ↔ ∃ one ∈ acc, ∃ n, ((endsD d).1 ≤ n ∧ n ≤ (endsD d).2) ∧ js = one ++ [n] := by
  unfold boxS
  rw [List.mem_flatMap]
  constructor
  · rintro ⟨one, h1, h2⟩
    obtain ⟨n, hn, rfl⟩ := List.mem_map.mp h2
    exact ⟨one, h1, n, mem_spanL.mp hn, rfl⟩
  · rintro ⟨one, h1, n, hn, rfl⟩
    exact ⟨one, h1, List.mem_map.mpr ⟨n, mem_spanL.mpr hn, rfl⟩⟩
/-- of each dial a number of its span -/
def InBox (ds : List PyData) (js : List Int) : Prop := PySem.Paired (fun d n => (endsD d).1 ≤ n ∧ n ≤ (endsD d).2) ds js
theorem paired_snoc {α β : Type} {F : α → β → Prop} : ∀ {l₁ : List α} {l₂ : List β} {a : α} {b : β}, PySem.Paired F l₁ l₂ → F a b → PySem.Paired F (l₁ ++ [a]) (l₂ ++ [b])
  | _, _, _, _, .nil, h => .cons h .nil
  | _, _, _, _, .cons x t, h => .cons x (paired_snoc t h)
theorem paired_unsnoc {α β : Type} {F : α → β → Prop} : ∀ {l₁ : List α} {l₂ : List β} {a : α}, PySem.Paired F (l₁ ++ [a]) l₂ → ∃ l b, l₂ = l ++ [b] ∧ PySem.Paired F l₁ l ∧ F a b
  | [], _, _, .cons h .nil => ⟨[], _, rfl, .nil, h⟩
  | x :: l₁, _, a, .cons (b := b) h t => by
    obtain ⟨l, c, e, p, q⟩ := paired_unsnoc (l₁ := l₁) t
    subst e
    exact ⟨b :: l, c, rfl, .cons h p, q⟩
theorem mem_box {js : List Int} : ∀ {ds : List PyData}, js ∈ boxN ds ↔ InBox ds js := by
  intro ds
  have key : ∀ (m : Nat) (ds : List PyData), ds.length = m → ∀ js, js ∈ boxN ds ↔ InBox ds js := by
    intro m
    induction m with
    | zero =>
      intro ds e js
      rw [List.length_eq_zero_iff.mp e]
      show js ∈ [[]] ↔ _
      rw [List.mem_singleton]
      constructor
      · rintro rfl
        exact .nil
      · intro h
        cases h
        rfl
    | succ m ih =>
      intro ds e js
      rcases List.eq_nil_or_concat ds with e0 | ⟨ds', d, e0⟩
      · rw [e0] at e
        cases e
      rw [List.concat_eq_append] at e0
      subst e0
      rw [List.length_append] at e
      have e' : ds'.length = m := by simpa using e
      have eb : boxN (ds' ++ [d]) = boxS (boxN ds') d := by
        unfold boxN
        rw [List.foldl_append]
        rfl
      rw [eb, mem_boxS]
      constructor
      · rintro ⟨one, h1, n, hn, rfl⟩
        exact paired_snoc ((ih ds' e' one).mp h1) hn
      · intro h
        obtain ⟨l, b, rfl, h1, h2⟩ := paired_unsnoc h
        exact ⟨l, (ih ds' e' l).mpr h1, b, h2, rfl⟩
  exact key _ ds rfl js
theorem InBox.len {ds : List PyData} {js : List Int} (h : InBox ds js) : js.length = ds.length := (PySem.Paired.length h).symm
theorem inBox_zip : ∀ {ds : List PyData} {js : List Int}, js.length = ds.length → (∀ d ∈ ds, DialG d) → (InBox ds js ↔ ∀ p ∈ ds.zip js, inSpan p.1 p.2)
  | [], [], _, _ => ⟨fun _ p hp => by simp at hp, fun _ => .nil⟩
  | [], _ :: _, h, _ => by cases h
  | _ :: _, [], h, _ => by cases h
  | d :: ds, j :: js, h, g => by
    have ih := inBox_zip (ds := ds) (js := js) (by simpa using h) fun e he => g e (List.mem_cons_of_mem _ he)
    have gd := span_ends (i := j) (g d List.mem_cons_self)
    constructor
    · intro hb p hp
      cases hb with
      | cons h1 h2 =>
        rw [List.zip_cons_cons] at hp
        rcases List.mem_cons.mp hp with rfl | hp
        · exact gd.mpr h1
        · exact ih.mp h2 p hp
    · intro hz
      rw [List.zip_cons_cons] at hz
      exact .cons (gd.mp (hz _ List.mem_cons_self)) (ih.mpr fun p hp => hz p (List.mem_cons_of_mem _ hp))
theorem GoodN.box {ds rs : List PyData} {is : List Int} (hg : HouseG ds rs) (g : GoodN ds rs is) : is ∈ boxN ds := mem_box.mpr ((inBox_zip g.len hg.dials).mpr (g.spans hg))
theorem lexL_irr (x : List Int) : lexL x x = false := by
  cases h : lexL x x with
  | false => rfl
  | true => rw [lexL_asym _ _ h] at h; cases h
theorem lexL_snoc : ∀ {x y : List Int} {a b : Int}, x.length = y.length → lexL (x ++ [a]) (y ++ [b]) = if x = y then decide (a < b) else lexL x y
  | [], [], a, b, _ => by
    rw [if_pos rfl]
    show (if a = b then false else decide (a < b)) = _
    by_cases c : a = b
    · rw [if_pos c, decide_eq_false (by omega)]
    · rw [if_neg c]
  | [], _ :: _, _, _, h => by cases h
  | _ :: _, [], _, _, h => by cases h
  | x :: xs, y :: ys, a, b, h => by
    show (if x = y then lexL (xs ++ [a]) (ys ++ [b]) else decide (x < y)) = if x :: xs = y :: ys then _ else (if x = y then lexL xs ys else decide (x < y))
    rw [lexL_snoc (x := xs) (y := ys) (by simpa using h)]
    by_cases c : x = y
    · subst c
      rw [if_pos rfl, if_pos rfl]
      by_cases d : xs = ys
      · rw [if_pos d, if_pos (by rw [d])]
      · rw [if_neg d, if_neg (fun q => d (List.cons.inj q).2)]
    · rw [if_neg c, if_neg c, if_neg (fun q => c (List.cons.inj q).1)]
abbrev Rise (fs : List (List Int)) : Prop := fs.Pairwise fun x y => lexL x y = true
theorem Rise.srt {fs : List (List Int)} (h : Rise fs) : SrtO.Srtd lexL fs := h.imp fun {a b} q => lexL_asym a b q
theorem Rise.nd {fs : List (List Int)} (h : Rise fs) : fs.Nodup := h.imp fun {a b} q e => by
  rw [e, lexL_irr] at q
  cases q
theorem upI_rise (lo : Int) : ∀ n, (upI lo n).Pairwise fun a b => a < b
  | 0 => List.Pairwise.nil
  | n + 1 => by
    show (upI lo n ++ [_]).Pairwise _
    rw [List.pairwise_append]
    refine ⟨upI_rise lo n, List.pairwise_singleton _ _, fun a ha b hb => ?_⟩
    rw [List.mem_singleton.mp hb]
    have := mem_upI.mp ha
    omega
theorem boxS_rise {acc : List (List Int)} {d : PyData} {m : Nat} (hl : ∀ x ∈ acc, x.length = m) (h : Rise acc) : Rise (boxS acc d) := by
  unfold boxS
  induction acc with
  | nil => exact List.Pairwise.nil
  | cons x acc ih =>
    rw [List.flatMap_cons]
    have h' := List.pairwise_cons.mp h
    refine List.pairwise_append.mpr ⟨?_, ih (fun y hy => hl y (List.mem_cons_of_mem _ hy)) h'.2, fun a ha b hb => ?_⟩
    · refine List.pairwise_map.mpr ((upI_rise _ _).imp fun {a b} q => ?_)
      rw [lexL_snoc rfl, if_pos rfl]
      exact decide_eq_true q
    · obtain ⟨n, _, rfl⟩ := List.mem_map.mp ha
      obtain ⟨y, hy, hb⟩ := List.mem_flatMap.mp hb
      obtain ⟨k, _, rfl⟩ := List.mem_map.mp hb
      have q := h'.1 y hy
      rw [lexL_snoc ((hl x List.mem_cons_self).trans (hl y (List.mem_cons_of_mem _ hy)).symm), if_neg (fun e => by
        rw [e, lexL_irr] at q
        cases q)]
      exact q
theorem box_rise (ds : List PyData) : Rise (boxN ds) := by
  have key : ∀ (m : Nat) (ds : List PyData), ds.length = m → Rise (boxN ds) := by
    intro m
    induction m with
    | zero =>
      intro ds e
      rw [List.length_eq_zero_iff.mp e]
      exact List.pairwise_singleton _ _
    | succ m ih =>
      intro ds e
      rcases List.eq_nil_or_concat ds with e0 | ⟨ds', d, e0⟩
      · rw [e0] at e
        cases e
      rw [List.concat_eq_append] at e0
      subst e0
      rw [List.length_append] at e
      have e' : ds'.length = m := by simpa using e
      have eb : boxN (ds' ++ [d]) = boxS (boxN ds') d := by
        unfold boxN
        rw [List.foldl_append]
        rfl
      rw [eb]
      exact boxS_rise (m := m) (fun x hx => by rw [(mem_box.mp hx).len]; exact e') (ih ds' e')
  exact key _ ds rfl
theorem boxS_len {d : PyData} : ∀ acc : List (List Int), (boxS acc d).length = acc.length * (spanL d).length
  | [] => by
    show 0 = 0 * _
    rw [Nat.zero_mul]
  | x :: acc => by
    show ((x :: acc).flatMap _).length = _
    rw [List.flatMap_cons, List.length_append, List.length_map, List.length_cons, Nat.succ_mul]
    have ih := boxS_len (d := d) acc
    unfold boxS at ih
    rw [ih]
    omega
end Pk
end
section
set_option maxHeartbeats 1000000
/-! The law's own: may. -/
namespace Pk
open PySem PySem.Spec PyProof.Rows L2
def mayD : PyData → Int → PyData → Bool
  | .tuple [_, .int lo, .int hi, .str way, _, _], here, .int to => (decide (lo ≤ to) && decide (to ≤ hi)) && (!decide (to = here) && (decide (way = "both") || decide (way = if here < to then "up" else "down")))
  | _, _, _ => false
def spLMay : Sp := fun vs H Q _ => ∃ (x : V) (d : PyData) (here to : Int), vs = [x, .int here, .int to] ∧ Tr H x d ∧ DialG d ∧ Q (.bl (mayD d here (.int to))) H
section
variable {P : Program} {w : World} {K : PySem.W.Frag} {mg : Str → Option Value} {base : Heap}
abbrev nLMay : List Str := ["_law_dial_here", "_law_one", "_law_other"]
theorem scLMay : FnScope nLMay ["_law_dial_here", "_law_one", "_law_other"] (defScope sLMay) := ⟨rfl, rfl, rfl, by decide +kernel, rfl, by decide +kernel, by decide +kernel⟩
theorem ok_lmay {f : Addr} {fd : FuncData} (F : Fun K "_law_may" "_law_may" sLMay f fd) : FnOk P w K mg base CX0 1 f fd ["_law_dial_here", "_law_one", "_law_other"] spLMay := by
  refine F.ok scLMay (fun vs H Q E h => ?_) (fun cdv A outer s H vs Q E hr h => ?_)
  · obtain ⟨x, d, here, to, rfl, _⟩ := h
    rfl
  obtain ⟨x, d, here, to, rfl, td, dg, k⟩ := h
  refine ⟨_, pss_cons (ps_if (PW.pt (pw_or (pt_cmpR op_eq (pv 2) (pv 1) (nomark _)) (pw_or1 (pt_not (pt_chain op_le op_le (pe_ix ix_tup (pv 0) pe_int (fun _ _ => rfl)) (pv 2) (pe_ix ix_tup (pv 0) pe_int (fun _ _ => rfl))))))) (pss_one (ps_ret pe_bl)) pss_nil) <|
    pss_one (ps_ret (pe_or (pe_cmpR op_eq (pe_ix ix_tup (pv 0) pe_int (fun _ _ => rfl)) pe_str (nomark _)) (pe_one (pe_cmpR (op_eqD hr.units) (pe_cmpR op_eq (pe_ix ix_tup (pv 0) pe_int (fun _ _ => rfl)) pe_str (nomark _)) (pe_cmpR op_gt (pv 2) (pv 1) (nomark _)) (nomark _))))), ?_⟩
  obtain ⟨nm, way, lo, hi, up, dn, rfl, _, _, hw, _⟩ := dg
  cases td with
  | @tup b xs _ hb al =>
  revert hb
  match xs, al with
  | [_, _, _, _, _, _], .cons (.str _) (.cons (.int _) (.cons (.int _) (.cons (.str _) (.cons (.int _) (.cons (.int _) .nil))))) =>
  intro hb
  have z : mayD (.tuple [.str nm, .int lo, .int hi, .str way, .int up, .int dn]) here (.int to) = ((decide (lo ≤ to) && decide (to ≤ hi)) && (!decide (to = here) && (decide (way = "both") || decide (way = if here < to then ("up" : Str) else "down")))) := by
    show ((decide (lo ≤ to) && decide (to ≤ hi)) && (!decide (to = here) && (decide (way = "both") || decide (way = Str.ofString (if here < to then "up" else "down"))))) = _
    by_cases c : here < to
    · rw [if_pos c, if_pos c]
    · rw [if_neg c, if_neg c]
  rw [z] at k
  clear z
  refine ⟨_, rfl, _, rfl, rfl, _, rfl, ?_⟩
  refine ite2 (fun c1 => ?_) (fun c1 => ?_)
  · have c1' : to = here := by simpa using c1
    rw [decide_eq_true c1', Bool.not_true, Bool.false_and, Bool.and_false] at k
    exact iteT k
  · have c1' : ¬ to = here := by simpa using c1
    rw [decide_eq_false c1', Bool.not_false, Bool.true_and] at k
    refine ⟨_, rfl, b, _, _, _, rfl, rfl, (.inl hb), rfl, _, rfl, _, _, rfl, rfl, _, rfl, ?_⟩
    by_cases c2 : lo ≤ to
    · rw [decide_eq_true c2, Bool.true_and] at k
      rw [decide_eq_true c2]
      refine iteT ⟨_, rfl, b, _, _, _, rfl, rfl, (.inl hb), rfl, _, _, rfl, rfl, _, rfl, ?_⟩
      by_cases c3 : to ≤ hi
      · rw [decide_eq_true c3, Bool.true_and] at k
        rw [decide_eq_true c3]
        refine iteF ⟨_, rfl, b, _, _, _, rfl, rfl, (.inl hb), rfl, rfl, _, rfl, ?_⟩
        refine ite2 (fun c4 => ?_) (fun c4 => ?_)
        · have c4' : way = "both" := by simpa using c4
          rw [decide_eq_true c4', Bool.true_or] at k
          simpa using k
        · have c4' : ¬ way = "both" := by simpa using c4
          rw [decide_eq_false c4', Bool.false_or] at k
          refine ⟨_, rfl, b, _, _, _, rfl, rfl, (.inl hb), rfl, rfl, _, rfl, _, rfl, _, _, rfl, rfl, .bool (decide (way = "up")), .bool (decide (here < to)), ?_, ?_, rfl, rfl, ?_⟩
          · rw [show decide (V.str way = V.str "up") = decide (way = "up") from by simp]
            exact .bl _
          · exact .bl _
          · have ew : decide (way = if here < to then ("up" : Str) else "down") = PyData.eqv (.bool (decide (way = "up"))) (.bool (decide (here < to))) := by
              have hw' : way = "both" ∨ way = "up" ∨ way = "down" := by simpa [ways3] using hw
              have nd : ¬ (("down" : Str) = "up") := by decide
              by_cases c5 : here < to
              · rw [if_pos c5, decide_eq_true c5]
                cases decide (way = ("up" : Str)) <;> rfl
              · rw [if_neg c5, decide_eq_false c5]
                rcases hw' with e | e | e
                · exact absurd e c4'
                · subst e
                  rfl
                · subst e
                  rfl
            rw [← ew]
            exact k
      · rw [decide_eq_false c3, Bool.false_and] at k
        rw [decide_eq_false c3]
        exact iteT k
    · rw [decide_eq_false c2, Bool.false_and, Bool.false_and] at k
      rw [decide_eq_false c2]
      exact iteF ⟨_, rfl, iteT k⟩
end
end Pk
end
section
set_option maxHeartbeats 1000000
/-! Numbers only: what the law goes through beside a standing. -/
namespace Pk
open PySem PySem.Spec PyProof.Rows L2
/-- the turns of a dial of which so much is left -/
def turnsL (str : Int) (d : PyData) (h used : Int) (n : Nat) : List Int := (upI (used - str) n).filter fun b => decide (b = 0) || mayD d h (.int (h + b))
abbrev manyT (str used : Int) : Nat := (str - used + 1 - (used - str)).toNat
def besF (str : Int) (p : PyData × Int) (q : List Int × Int) (n : Nat) : List (List Int × Int) := (turnsL str p.1 p.2 q.2 n).map fun b => (q.1 ++ [p.2 + b], q.2 + absI b)
def besS (str : Int) (acc : List (List Int × Int)) (p : PyData × Int) : List (List Int × Int) := acc.flatMap fun q => besF str p q (manyT str q.2)
def besN (str : Int) (ps : List (PyData × Int)) : List (List Int × Int) := ps.foldl (besS str) [([], 0)]
theorem besN_more {str : Int} {ps : List (PyData × Int)} {i : Nat} {p : PyData × Int} (hp : ps[i]? = some p) : besN str (ps.take (i + 1)) = besS str (besN str (ps.take i)) p := by
  unfold besN
  rw [take_more hp, List.foldl_append]
  rfl
theorem besN_snoc (str : Int) (ps : List (PyData × Int)) (p : PyData × Int) : besN str (ps ++ [p]) = besS str (besN str ps) p := by
  unfold besN
  rw [List.foldl_append]
  rfl
abbrev TurnOk (p : PyData × Int) (j : Int) : Prop := j = p.2 ∨ mayD p.1 p.2 (.int j) = true
def farP (ps : List (PyData × Int)) (js : List Int) : Int := ((ps.zip js).map fun x => absI (x.1.2 - x.2)).sum
theorem farP_snoc {ps : List (PyData × Int)} {js : List Int} {p : PyData × Int} {j : Int} (h : ps.length = js.length) : farP (ps ++ [p]) (js ++ [j]) = farP ps js + absI (p.2 - j) := by
  unfold farP
  rw [List.zip_append h, List.map_append, List.sum_append]
  show _ + (absI (p.2 - j) + 0) = _
  omega
theorem farP_nn (ps : List (PyData × Int)) (js : List Int) : 0 ≤ farP ps js := by
  unfold farP
  generalize ps.zip js = l
  induction l with
  | nil => exact Int.le_refl 0
  | cons x l ih =>
    rw [List.map_cons, List.sum_cons]
    have := abs_nn (x.1.2 - x.2)
    omega
theorem mem_turnsL {str : Int} {d : PyData} {h used b : Int} : b ∈ turnsL str d h used (manyT str used) ↔ used - str ≤ b ∧ b ≤ str - used ∧ (b = 0 ∨ mayD d h (.int (h + b)) = true) := by
  unfold turnsL manyT
  rw [List.mem_filter, mem_upI, Bool.or_eq_true, decide_eq_true_eq]
  constructor
  · rintro ⟨⟨h1, h2⟩, h3⟩
    exact ⟨h1, by omega, h3⟩
  · rintro ⟨h1, h2, h3⟩
    exact ⟨⟨h1, by omega⟩, h3⟩
theorem mem_besS {str : Int} {acc : List (List Int × Int)} {p : PyData × Int} {js : List Int} {u : Int} : (js, u) ∈ besS str acc p ↔ ∃ one v b, (one, v) ∈ acc ∧ (v - str ≤ b ∧ b ≤ str - v ∧ (b = 0 ∨ mayD p.1 p.2 (.int (p.2 + b)) = true)) ∧ js = one ++ [p.2 + b] ∧ u = v + absI b := by
  unfold besS besF
  rw [List.mem_flatMap]
  constructor
  · rintro ⟨⟨one, v⟩, h1, h2⟩
    obtain ⟨b, hb, e⟩ := List.mem_map.mp h2
    cases e
    exact ⟨one, v, b, h1, mem_turnsL.mp hb, rfl, rfl⟩
  · rintro ⟨one, v, b, h1, h2, rfl, rfl⟩
    exact ⟨(one, v), h1, List.mem_map.mpr ⟨b, mem_turnsL.mpr h2, rfl⟩⟩
theorem mem_bes {str : Int} (h0 : 0 ≤ str) : ∀ {ps : List (PyData × Int)} {js : List Int} {u : Int}, (js, u) ∈ besN str ps ↔ PySem.Paired TurnOk ps js ∧ u = farP ps js ∧ u ≤ str := by
  have key : ∀ (m : Nat) (ps : List (PyData × Int)), ps.length = m → ∀ js u, (js, u) ∈ besN str ps ↔ PySem.Paired TurnOk ps js ∧ u = farP ps js ∧ u ≤ str := by
    intro m
    induction m with
    | zero =>
      intro ps e js u
      rw [List.length_eq_zero_iff.mp e]
      show (js, u) ∈ [([], (0 : Int))] ↔ _
      rw [List.mem_singleton]
      constructor
      · intro q
        cases q
        exact ⟨.nil, rfl, h0⟩
      · rintro ⟨h, e, _⟩
        cases h
        rw [e]
        rfl
    | succ m ih =>
      intro ps e js u
      rcases List.eq_nil_or_concat ps with e0 | ⟨ps', p, e0⟩
      · rw [e0] at e
        cases e
      rw [List.concat_eq_append] at e0
      subst e0
      rw [List.length_append] at e
      have e' : ps'.length = m := by simpa using e
      rw [besN_snoc, mem_besS]
      constructor
      · rintro ⟨one, v, b, h1, ⟨h2, h3, h4⟩, rfl, rfl⟩
        obtain ⟨q1, q2, q3⟩ := (ih ps' e' one v).mp h1
        have l1 := PySem.Paired.length q1
        refine ⟨paired_snoc q1 ?_, ?_, ?_⟩
        · rcases h4 with h4 | h4
          · exact .inl (by omega)
          · exact .inr h4
        · rw [farP_snoc l1, ← q2]
          unfold absI
          split <;> split <;> omega
        · unfold absI
          split <;> omega
      · rintro ⟨h, e, hu⟩
        obtain ⟨l, j, rfl, h1, h2⟩ := paired_unsnoc h
        have l1 := PySem.Paired.length h1
        rw [farP_snoc l1] at e
        have nn := farP_nn ps' l
        have nn2 := abs_nn (p.2 - j)
        refine ⟨l, farP ps' l, j - p.2, (ih ps' e' l _).mpr ⟨h1, rfl, by omega⟩, ⟨?_, ?_, ?_⟩, ?_, ?_⟩
        · unfold absI at e nn2
          split at e <;> omega
        · unfold absI at e nn2
          split at e <;> omega
        · rcases h2 with h2 | h2
          · exact .inl (by omega)
          · refine .inr ?_
            rw [show p.2 + (j - p.2) = j from by omega]
            exact h2
        · rw [show p.2 + (j - p.2) = j from by omega]
        · rw [e]
          unfold absI
          split <;> split <;> omega
  intro ps js u
  exact key _ ps rfl js u
theorem filter_le {α : Type} (f : α → Bool) (l : List α) : (l.filter f).length ≤ l.length := List.length_filter_le f l
theorem bes_len1 {str : Int} {p : PyData × Int} {m : Nat} : ∀ {acc : List (List Int × Int)}, (∀ q ∈ acc, manyT str q.2 ≤ m) → (besS str acc p).length ≤ m * acc.length
  | [], _ => Nat.zero_le _
  | q :: acc, h => by
    unfold besS
    rw [List.flatMap_cons, List.length_append]
    have ih := bes_len1 (str := str) (p := p) (m := m) (acc := acc) fun x hx => h x (List.mem_cons_of_mem _ hx)
    unfold besS at ih
    have h1 := h q List.mem_cons_self
    have h2 : (besF str p q (manyT str q.2)).length ≤ manyT str q.2 := by
      unfold besF turnsL
      rw [List.length_map]
      refine Nat.le_trans (filter_le _ _) ?_
      rw [upI_len]
      exact Nat.le_refl _
    rw [List.length_cons, Nat.mul_succ]
    omega
theorem bes_used {str : Int} (h0 : 0 ≤ str) (h3 : str ≤ 3) {ps : List (PyData × Int)} : ∀ q ∈ besN str ps, 0 ≤ q.2 ∧ q.2 ≤ str ∧ manyT str q.2 ≤ 7 := by
  rintro ⟨js, u⟩ hq
  obtain ⟨_, e, le⟩ := (mem_bes h0).mp hq
  have nn := farP_nn ps js
  refine ⟨by show 0 ≤ u; omega, le, ?_⟩
  show (str - u + 1 - (u - str)).toNat ≤ 7
  omega
theorem bes_len {str : Int} (h0 : 0 ≤ str) (h3 : str ≤ 3) : ∀ (ps : List (PyData × Int)), (besN str ps).length ≤ 7 ^ ps.length := by
  have key : ∀ (m : Nat) (ps : List (PyData × Int)), ps.length = m → (besN str ps).length ≤ 7 ^ m := by
    intro m
    induction m with
    | zero =>
      intro ps e
      rw [List.length_eq_zero_iff.mp e]
      exact Nat.le_refl 1
    | succ m ih =>
      intro ps e
      rcases List.eq_nil_or_concat ps with e0 | ⟨ps', p, e0⟩
      · rw [e0] at e
        cases e
      rw [List.concat_eq_append] at e0
      subst e0
      rw [List.length_append] at e
      have e' : ps'.length = m := by simpa using e
      rw [besN_snoc]
      refine Nat.le_trans (bes_len1 (m := 7) fun q hq => (bes_used h0 h3 q hq).2.2) ?_
      rw [Nat.pow_succ, Nat.mul_comm]
      exact Nat.mul_le_mul_right _ (ih ps' e')
  intro ps
  exact key _ ps rfl
/-- how a dial may turn, by its way -/
theorem way_dial {ds : List PyData} (nd : (ds.map nameOf).Nodup) {nm way : Str} {lo hi up dn : Int} (h : PyData.tuple [.str nm, .int lo, .int hi, .str way, .int up, .int dn] ∈ ds) : wayOf ds nm = way := by
  unfold wayOf
  have q := find_dial nd h
  rw [show nameOf (.tuple [.str nm, .int lo, .int hi, .str way, .int up, .int dn]) = nm from rfl] at q
  rw [q]
theorem may_iff {ds : List PyData} (nd : (ds.map nameOf).Nodup) {d : PyData} (hd : d ∈ ds) (hg : DialG d) {x y : Int} (hx : (endsD d).1 ≤ x ∧ x ≤ (endsD d).2) : (y = x ∨ mayD d x (.int y) = true) ↔ ((endsD d).1 ≤ y ∧ y ≤ (endsD d).2) ∧ goesI (wayOf ds (nameOf d)) x y := by
  obtain ⟨nm, way, lo, hi, up, dn, rfl, _, _, hw, _⟩ := hg
  have ew : wayOf ds (nameOf (.tuple [.str nm, .int lo, .int hi, .str way, .int up, .int dn])) = way := way_dial nd hd
  rw [ew]
  have hx' : lo ≤ x ∧ x ≤ hi := hx
  have hw' : way = "both" ∨ way = "up" ∨ way = "down" := by simpa [ways3] using hw
  show (y = x ∨ ((decide (lo ≤ y) && decide (y ≤ hi)) && (!decide (y = x) && (decide (way = "both") || decide (way = Str.ofString (if x < y then "up" else "down"))))) = true) ↔ ((lo ≤ y ∧ y ≤ hi) ∧ _)
  unfold goesI
  rw [Bool.and_eq_true, Bool.and_eq_true, Bool.and_eq_true, Bool.or_eq_true, decide_eq_true_eq, decide_eq_true_eq, Bool.not_eq_true', decide_eq_false_iff_not, decide_eq_true_eq, decide_eq_true_eq]
  have n1 : ¬ (("both" : Str) = "up") := by decide
  have n2 : ¬ (("both" : Str) = "down") := by decide
  have n3 : ¬ (("up" : Str) = "down") := by decide
  have n4 : ¬ (("down" : Str) = "up") := by decide
  constructor
  · rintro (rfl | ⟨⟨h1, h2⟩, h3, h4⟩)
    · exact ⟨hx', fun h => absurd h (by omega), fun h => absurd h (by omega)⟩
    · refine ⟨⟨h1, h2⟩, fun lt => ?_, fun lt => ?_⟩
      · rcases h4 with h4 | h4
        · rw [h4]
          exact n2
        · rw [if_pos lt] at h4
          rw [h4]
          exact n3
      · rcases h4 with h4 | h4
        · rw [h4]
          exact n1
        · rw [if_neg (by omega)] at h4
          rw [h4]
          exact n4
  · rintro ⟨⟨h1, h2⟩, h3, h4⟩
    by_cases c : y = x
    · exact .inl c
    · refine .inr ⟨⟨h1, h2⟩, c, ?_⟩
      rcases hw' with e | e | e
      · exact .inl e
      · right
        rw [e]
        by_cases lt : x < y
        · rw [if_pos lt]
        · exact absurd e (h4 (by omega))
      · right
        rw [e]
        by_cases lt : x < y
        · exact absurd e (h3 lt)
        · rw [if_neg lt]
theorem nodup_map_mem {ds : List PyData} (nd : (ds.map nameOf).Nodup) : ∀ {es : List PyData}, (∀ d ∈ es, d ∈ ds) → True := fun _ => trivial
/-- what steps of the numbers by the dials are -/
theorem far_dist : ∀ {ds : List PyData} {is js : List Int}, (ds.map nameOf).Nodup → is.length = ds.length → js.length = ds.length → farP (ds.zip is) js = distN ds is js
  | [], [], [], _, _, _ => rfl
  | [], _ :: _, _, _, h, _ => by cases h
  | [], [], _ :: _, _, _, h => by cases h
  | _ :: _, [], _, _, h, _ => by cases h
  | _ :: _, _ :: _, [], _, _, h => by cases h
  | d :: ds, i :: is, j :: js, nd, h1, h2 => by
    have nd' := nd
    rw [List.map_cons, List.nodup_cons] at nd'
    have ih := far_dist nd'.2 (is := is) (js := js) (by simpa using h1) (by simpa using h2)
    have e1 : ∀ y, fOf (d :: ds) (i :: is) y = if nameOf d = y then i else fOf ds is y := fun y => look_head (nameOf d, i) _ y
    have e2 : ∀ y, fOf (d :: ds) (j :: js) y = if nameOf d = y then j else fOf ds js y := fun y => look_head (nameOf d, j) _ y
    unfold farP distN distI at *
    rw [List.zip_cons_cons, List.zip_cons_cons, List.map_cons, List.sum_cons, ih, List.map_cons, List.map_cons, List.sum_cons, e1, e2, if_pos rfl, if_pos rfl]
    congr 2
    refine List.map_congr_left fun z hz => ?_
    rw [e1, e2, if_neg, if_neg]
    · intro q
      exact nd'.1 (by rw [q]; exact hz)
    · intro q
      exact nd'.1 (by rw [q]; exact hz)
theorem turn_paired {ds : List PyData} (nd : (ds.map nameOf).Nodup) : ∀ {es : List PyData} {is js : List Int}, (∀ d ∈ es, d ∈ ds) → (∀ d ∈ es, DialG d) → is.length = es.length → (∀ p ∈ es.zip is, inSpan p.1 p.2) → (PySem.Paired TurnOk (es.zip is) js ↔ InBox es js ∧ js.length = es.length ∧ ∀ t ∈ (es.zip is).zip js, goesI (wayOf ds (nameOf t.1.1)) t.1.2 t.2)
  | [], [], js, _, _, _, _ => by
    constructor
    · intro h
      cases h
      exact ⟨.nil, rfl, fun t ht => by simp at ht⟩
    · rintro ⟨h, _⟩
      cases h
      exact .nil
  | [], _ :: _, _, _, _, h, _ => by cases h
  | _ :: _, [], _, _, _, h, _ => by cases h
  | d :: es, i :: is, js, hm, hg, hl, hs => by
    rw [List.zip_cons_cons] at hs ⊢
    have ih := fun js => turn_paired nd (es := es) (is := is) (js := js) (fun e he => hm e (List.mem_cons_of_mem _ he)) (fun e he => hg e (List.mem_cons_of_mem _ he)) (by simpa using hl) fun p hp => hs p (List.mem_cons_of_mem _ hp)
    have gd := hg d List.mem_cons_self
    have sd := (span_ends gd).mp (hs _ List.mem_cons_self)
    have key := fun y => may_iff nd (hm d List.mem_cons_self) gd (x := i) (y := y) sd
    constructor
    · intro h
      cases h with
      | @cons _ j _ l h1 h2 =>
        obtain ⟨q1, q2⟩ := (key j).mp h1
        obtain ⟨r1, r2, r3⟩ := (ih l).mp h2
        refine ⟨.cons q1 r1, by rw [List.length_cons, List.length_cons, r2], fun t ht => ?_⟩
        rw [List.zip_cons_cons] at ht
        rcases List.mem_cons.mp ht with rfl | ht
        · exact q2
        · exact r3 t ht
    · rintro ⟨h1, h2, h3⟩
      cases h1 with
      | @cons _ j _ l q1 q2 =>
        rw [List.zip_cons_cons] at h3
        exact .cons ((key j).mpr ⟨q1, h3 _ List.mem_cons_self⟩) ((ih l).mpr ⟨q2, by simpa using h2, fun t ht => h3 t (List.mem_cons_of_mem _ ht)⟩)
/-- by names, by dials -/
theorem goes_zip {ds : List PyData} {is js : List Int} (nd : (ds.map nameOf).Nodup) (l1 : is.length = ds.length) (l2 : js.length = ds.length) {w : Str → Str} : (∀ t ∈ (ds.zip is).zip js, goesI (w (nameOf t.1.1)) t.1.2 t.2) ↔ ∀ z ∈ ds.map nameOf, goesI (w z) (fOf ds is z) (fOf ds js z) := by
  have key : ∀ (es : List PyData) (is js : List Int), is.length = es.length → js.length = es.length → (es.map nameOf).Nodup → ((∀ t ∈ (es.zip is).zip js, goesI (w (nameOf t.1.1)) t.1.2 t.2) ↔ ∀ z ∈ es.map nameOf, goesI (w z) (fOf es is z) (fOf es js z)) := by
    intro es
    induction es with
    | nil =>
      intro is js _ _ _
      simp
    | cons d es ih =>
      intro is js h1 h2 nd'
      match is, js, h1, h2 with
      | i :: is, j :: js, h1, h2 =>
      have nd2 := nd'
      rw [List.map_cons, List.nodup_cons] at nd2
      have ih := ih is js (by simpa using h1) (by simpa using h2) nd2.2
      have e1 : ∀ y, fOf (d :: es) (i :: is) y = if nameOf d = y then i else fOf es is y := fun y => look_head (nameOf d, i) _ y
      have e2 : ∀ y, fOf (d :: es) (j :: js) y = if nameOf d = y then j else fOf es js y := fun y => look_head (nameOf d, j) _ y
      rw [List.zip_cons_cons, List.zip_cons_cons, List.map_cons, List.forall_mem_cons, List.forall_mem_cons, ih, e1, e2, if_pos rfl, if_pos rfl]
      refine and_congr_right fun _ => forall_congr' fun z => imp_congr_right fun hz => ?_
      rw [e1, e2, if_neg, if_neg]
      · intro q
        exact nd2.1 (by rw [q]; exact hz)
      · intro q
        exact nd2.1 (by rw [q]; exact hz)
  exact key ds is js l1 l2 nd
/-- what is beside: all that a step of that strength reaches, by spans and pawls -/
theorem mem_beside {ds rs : List PyData} {is js : List Int} {str : Int} (hg : HouseG ds rs) (g : GoodN ds rs is) (h0 : 0 ≤ str) : js ∈ (besN str (ds.zip is)).map (·.1) ↔ InBox ds js ∧ StepN ds str is js := by
  rw [List.mem_map]
  have tp := turn_paired hg.nd (es := ds) (is := is) (js := js) (fun d hd => hd) hg.dials g.len (g.spans hg)
  constructor
  · rintro ⟨⟨l, u⟩, h, rfl⟩
    obtain ⟨h1, h2, h3⟩ := (mem_bes h0).mp h
    obtain ⟨q1, q2, q3⟩ := tp.mp h1
    refine ⟨q1, (goes_zip hg.nd g.len q2).mp q3, ?_⟩
    rw [far_dist hg.nd g.len q2] at h2
    have h2' : u = distN ds is l := h2
    show distN ds is l ≤ str
    omega
  · rintro ⟨h1, h2, h3⟩
    have l2 := h1.len
    refine ⟨(js, farP (ds.zip is) js), (mem_bes h0).mpr ⟨tp.mpr ⟨h1, l2, (goes_zip hg.nd g.len l2).mpr h2⟩, rfl, ?_⟩, rfl⟩
    rw [far_dist hg.nd g.len l2]
    exact h3
end Pk
end
section
set_option maxHeartbeats 4000000
/-! Tuples that are known to have no dict: t + u, t[lo:hi], t[::-1]; sorted(a tuple of pairs of a text and a number). -/
namespace Pk
open PySem PySem.Spec PyProof.Rows L2
open HT in
section
variable {prog : Program} {w : World} {A : Around} {E : Value → Shared → Prop} {s : Shared}
theorem rev_applied {sl : Addr} {vl vu vs : Value} {n : Nat} {Q : Int × Int × Nat → Shared → Prop} (hs : s.heap.IsSliceOf sl vl vu vs) (pl : IsPart vl none) (pu : IsPart vu none) (ps : IsPart vs (some (-1)))
    (h : Q (((n : Nat) : Int) - 1, -1, n) s) : wpAny (model prog w) A (Builtin.Slice.sliceApplied (.ref sl) (pure (n : Int))) Q E s := by
  obtain ⟨os, hos, hcs, hds⟩ := id hs
  unfold Builtin.Slice.sliceApplied Builtin.Slice.sliceFields
  refine wpAny_bind (wpAny_bind (wpAny_field hos hds (x := vl) rfl (wpAny_bind (wpAny_field hos hds (x := vu) rfl (wpAny_bind (wpAny_field hos hds (x := vs) rfl (wpAny_pure ?_)))))))
  refine wpAny_bind (slicePart_ ps ?_)
  show wpAny _ _ (if ((-1 : Int) == 0) = true then _ else _) _ _ s
  rw [if_neg (by decide)]
  refine wpAny_bind (slicePart_ pl (wpAny_bind (slicePart_ pu (wpAny_bind (wpAny_pure ?_)))))
  show wpAny _ _ (match Builtin.Slice.sliceAdjust none none (-1) (n : Int) with | (lo, hi) => pure (lo, (-1 : Int), Builtin.Slice.slicePlaces lo hi (-1))) _ _ s
  have e : Builtin.Slice.sliceAdjust none none (-1) (n : Int) = ((n : Int) - 1, -1) := rfl
  rw [e]
  have e2 : Builtin.Slice.slicePlaces ((n : Int) - 1) (-1) (-1) = n := by
    unfold Builtin.Slice.slicePlaces
    rw [if_neg (by decide)]
    by_cases c : n = 0
    · subst c
      rfl
    · rw [if_pos (by omega)]
      have : ((n : Int) - 1 - -1 - 1) / (- -1) + 1 = (n : Int) := by
        rw [show (- -1 : Int) = 1 from rfl, Int.ediv_one]
        omega
      rw [this]
      exact Int.toNat_natCast n
  show wpAny _ _ (pure ((n : Int) - 1, (-1 : Int), Builtin.Slice.slicePlaces ((n : Int) - 1) (-1) (-1))) _ _ s
  rw [e2]
  exact wpAny_pure h
theorem rev_pick (xs : Array Value) : ((List.range xs.size).filterMap fun (m : Nat) => xs[((xs.size : Int) - 1 + (m : Int) * -1).toNat]?).toArray = xs.toList.reverse.toArray := by
  congr 1
  apply List.ext_getElem?
  intro i
  have e : (List.range xs.size).filterMap (fun (m : Nat) => xs[((xs.size : Int) - 1 + (m : Int) * -1).toNat]?) = (List.range xs.size).map (fun m => xs.toList[xs.size - 1 - m]?.getD default) := by
    have key : ∀ l : List Nat, (∀ m ∈ l, m < xs.size) → l.filterMap (fun (m : Nat) => xs[((xs.size : Int) - 1 + (m : Int) * -1).toNat]?) = l.map (fun m => xs.toList[xs.size - 1 - m]?.getD default) := by
      intro l
      induction l with
      | nil => intro _; rfl
      | cons m l ih =>
        intro h
        have hm := h m List.mem_cons_self
        have e1 : ((xs.size : Int) - 1 + (m : Int) * -1).toNat = xs.size - 1 - m := by omega
        have e2 : xs[xs.size - 1 - m]? = some xs[xs.size - 1 - m] := getElem?_pos xs _ (by omega)
        rw [List.filterMap_cons, e1, e2, List.map_cons, ih fun k hk => h k (List.mem_cons_of_mem _ hk)]
        simp only [Array.getElem?_toList, e2, Option.getD_some]
    exact key _ fun m hm => List.mem_range.mp hm
  rw [e]
  by_cases c : i < xs.size
  · rw [List.getElem?_map, List.getElem?_range c, List.getElem?_reverse (by rw [Array.length_toList]; exact c), Array.length_toList]
    have e2 : xs[xs.size - 1 - i]? = some xs[xs.size - 1 - i] := getElem?_pos xs _ (by omega)
    simp only [Option.map_some, Array.getElem?_toList, e2, Option.getD_some]
  · rw [List.getElem?_eq_none (by rw [List.length_map, List.length_range]; omega), List.getElem?_eq_none (by rw [List.length_reverse, Array.length_toList]; omega)]
theorem getItem_tuple_rev {t sl : Addr} {items : Array Value} {vl vu vs : Value} {Q : Value → Shared → Prop} (ht : IsTup s.heap t items) (hs : s.heap.IsSliceOf sl vl vu vs) (pl : IsPart vl none) (pu : IsPart vu none) (ps : IsPart vs (some (-1)))
    (h : Q (.ref s.heap.objs.size) { s with heap := s.heap.push { cls := .type "tuple", data := .seq items.toList.reverse.toArray } })
    (hsz : items.size ≤ sizeLine) : wpAny (model prog w) A (getItem (.ref t) (.ref sl)) Q E s := by
  have htake : sizeOk (.seq items.toList.reverse.toArray) := by
    show items.toList.reverse.toArray.size ≤ sizeLine
    rw [List.size_toArray, List.length_reverse, Array.length_toList]
    exact hsz
  obtain ⟨os, hos, hcs, hds⟩ := id hs
  have hTs : s.TypeIs (.ref sl) "slice" := ⟨os, hos, hcs⟩
  unfold getItem
  try with_reducible refine wpAny_holding ?_
  first | refine wpAny_bind (wpAny_pure ?_) | skip
  refine wpAny_bind (wpAny_sequenceKey ht.typeIs (by decide) ?_)
  refine wpAny_bind (wpAny_callSpecial?_slot (name := Str.ofString "__getitem__") ht.typeIs PyProof.Rows.slot_tuple_getitem
    (wpAny_call_entry PyProof.Rows.slot_tuple_getitem ht.typeIs entry_tuple_getitem ?_ (args_tuple_getitem _ _)))
  show wpAny _ _ (Builtin.Tuple.tupleItemsOf (.ref t) >>= _) _ _ s
  refine wpAny_bind (tupleItemsOf_ ht ?_)
  refine wpAny_bind (wpAny_typeOf hTs ?_)
  rw [if_pos (by decide)]
  refine wpAny_bind (rev_applied hs pl pu ps ?_)
  have hno : ¬ ((((items.size : Int) - 1 == 0 && (-1 : Int) == 1 && items.size == items.size) = true)) := by
    intro q
    rw [Bool.and_eq_true, Bool.and_eq_true] at q
    exact absurd (eq_of_beq q.1.2) (by decide)
  show wpAny _ _ (if ((items.size : Int) - 1 == 0 && (-1 : Int) == 1 && items.size == items.size) = true then _ else _) _ _ s
  rw [if_neg hno, rev_pick]
  first
    | exact wpAny_bind (m := Builtin.Tuple.tupleExact _) (wpAny_newObj_type (wpAny_pure ⟨_, rfl, wpAny_pure h⟩) htake)
    | exact wpAny_bind (m := Builtin.Tuple.tupleExact _) (wpAny_newObj_type (wpAny_bind (wpAny_pure (wpAny_pure ⟨_, rfl, wpAny_pure h⟩))) htake)
    | exact wpAny_bind (wpAny_bind (m := Builtin.Tuple.tupleExact _) (wpAny_newObj_type (wpAny_pure (wpAny_pure ⟨_, rfl, wpAny_pure h⟩)) htake))
    | exact wpAny_bind (wpAny_bind (m := Builtin.Tuple.tupleExact _) (wpAny_newObj_type (wpAny_pure ⟨_, rfl, wpAny_pure h⟩) htake))
end
section
variable {X : Cx}
/-- t + u, the sum known -/
theorem op_catF : OpR X (binaryOp .Add) (fun x y H Q => ∃ a b xs ys, x = .ref a ∧ y = .ref b ∧ SqT X.K H a xs ∧ SqT X.K H b ys ∧ xs.length + ys.length ≤ sizeLine ∧
  (xs = [] → Q (.ref b) H) ∧ (xs ≠ [] → ys = [] → Q (.ref a) H) ∧ (xs ≠ [] → ys ≠ [] → ∀ p o, H p = none → o.dict = none → Q (.ref p) (upd H p (.frz o (.tup (xs ++ ys)))))) := by
  intro pins s σ H x y v u Q I rx ry h
  obtain ⟨a, b, xs, ys, rfl, rfl, ha, hb, hz, q0, q1, q2⟩ := h
  cases rx
  cases ry
  obtain ⟨its, r1, p1, _⟩ := I.tuple ha
  obtain ⟨its2, r2, p2, _⟩ := I.tuple hb
  by_cases hx : xs = []
  · subst hx
    cases r1
    exact cat_tup0 p1 p2 ⟨.ref b, H, I, rfl, q0 rfl⟩
  refine HT.cat_tup p1 p2 (fun z => hx (r1.nil_iff.mp z)) (fun z => ⟨.ref a, H, I, rfl, q1 hx (r2.nil_iff.mp z)⟩) (fun z => ?_) (by rw [← r1.length, ← r2.length]; exact hz)
  refine ⟨.ref s.heap.objs.size, _, I.laid (t' := s.toks) (o := .frz { cls := .type "tuple", data := .seq (its ++ its2).toArray } (.tup (xs ++ ys))) (fun b ob q => Heap.get?_push_of_some _ q) (Nat.le_refl _) ?_, rfl, q2 hx (fun w => z (r2.nil_iff.mpr w)) _ _ (I.hok.fresh (Nat.le_refl _)) rfl⟩
  exact ⟨Heap.get?_push_size _ rfl, by rw [List.length_append]; exact hz, _, r1.append r2, IsTup.new _ _⟩
/-- t[lo:hi], known -/
theorem sl_tupF : SlR X (fun x lo hi H Q => ∃ a xs, x = .ref a ∧ SqT X.K H a xs ∧ (HT.sIx xs.length 0 lo = 0 ∧ HT.sIx xs.length xs.length hi = xs.length → Q (.ref a) H) ∧
    (¬ (HT.sIx xs.length 0 lo = 0 ∧ HT.sIx xs.length xs.length hi = xs.length) → ∀ p o, H p = none → o.dict = none → Q (.ref p) (upd H p (.frz o (.tup (cutV xs lo hi)))))) := by
  intro pins s σ H x v vl vu lo hi sl Q I rx hs pl pu h
  obtain ⟨a, xs, rfl, hx, q1, q2⟩ := h
  cases rx
  obtain ⟨its, r, ht, hz⟩ := I.tuple hx
  have hlen : its.toArray.size = xs.length := by rw [List.size_toArray]; exact r.length.symm
  refine ⟨"tuple", _, PyProof.Rows.slot_tuple_getitem.lookup, ht.typeIs, ?_⟩
  by_cases hw : HT.sIx xs.length 0 lo = 0 ∧ HT.sIx xs.length xs.length hi = xs.length
  · exact getItem_tuple_whole ht hs pl pu (by rw [hlen]; exact hw) ⟨.ref a, H, I, rfl, q1 hw⟩
  refine HT.getItem_tuple_cut ht hs pl pu (by rw [hlen]; exact hw) ?_ (by rw [hlen]; exact hz)
  rw [hlen]
  refine ⟨.ref s.heap.objs.size, _, I.laid (t' := s.toks) (o := .frz { cls := .type "tuple", data := .seq ((its.toArray.toList.drop (HT.sIx xs.length 0 lo)).take (HT.sIx xs.length xs.length hi - HT.sIx xs.length 0 lo)).toArray } (.tup (cutV xs lo hi))) (fun b ob q => Heap.get?_push_of_some _ q) (Nat.le_refl _) ?_, rfl, q2 hw _ _ (I.hok.fresh (Nat.le_refl _)) rfl⟩
  exact ⟨Heap.get?_push_size _ rfl, Nat.le_trans (cutV_length xs lo hi) hz, _, (r.drop (HT.sIx xs.length 0 lo)).take (HT.sIx xs.length xs.length hi - HT.sIx xs.length 0 lo), IsTup.new _ _⟩
/-- t[::-1], known -/
def tRevF (K : PySem.W.Frag) (te : TE) : TE := fun σ H Q => te σ H fun x H1 => ∃ a xs, x = .ref a ∧ SqT K H1 a xs ∧ ∀ p o, H1 p = none → o.dict = none → Q (.ref p) (upd H1 p (.frz o (.tup xs.reverse)))
theorem pe_revF {e : Expr} {te : TE} {k : Nat} {p1 p2 p3 pos : Pos} (he : PE X e te) : PE X (.Subscript e (.Slice none none (some (.UnaryOp .USub (.Constant (.int 1) k p1) p2)) p3) pos) (tRevF X.K te) := by
  refine ⟨fun pins s σ H Q I h => ?_⟩
  refine Subscript_ (thn (he.run pins s σ H _ I h) fun v s1 ⟨x, H1, I1, r1, q1⟩ => ?_)
  obtain ⟨a, xs, ex, hx, q⟩ := q1
  subst ex
  cases r1
  have hst : PO X (some (.UnaryOp .USub (.Constant (.int 1) k p1) p2)) (tPart (tUn (rU fun i => .int (-i)) (tC (.int 1)))) := po_some (pe_un un_neg pe_int)
  refine wpAny_Slice (thn (po_none.run pins s1 σ H1 (fun o H2 => o = none ∧ H2 = H1) I1 ⟨rfl, rfl⟩) fun vl s2 ⟨l, H2, I2, pl, el, e2⟩ => ?_)
  subst el e2
  refine thn (po_none.run pins s2 σ H2 (fun o H3 => o = none ∧ H3 = H2) I2 ⟨rfl, rfl⟩) fun vu s3 ⟨u, H3, I3, pu, eu, e3⟩ => ?_
  subst eu e3
  refine thn (hst.run pins s3 σ H3 (fun o H4 => o = some (-1) ∧ H4 = H3) I3 ⟨1, rfl, -1, rfl, rfl, rfl⟩) fun vs s4 ⟨o, H4, I4, ps, eo, e4⟩ => ?_
  subst eo e4
  have I5 : Inv X pins σ H4 { s4 with heap := s4.heap.push { cls := .type "slice", data := .fields #[vl, vu, vs] } } := I4.kept (t' := s4.toks) fun b ob q => Heap.get?_push_of_some _ q
  obtain ⟨its, r, ht, hz⟩ := I5.tuple hx
  have hlen := r.length
  show wpAny (model X.prog X.w) X.A (subscriptTail e (.Slice none none (some (.UnaryOp .USub (.Constant (.int 1) k p1) p2)) p3) (.ref a) (.ref s4.heap.objs.size)) (EP X pins σ Q) X.xe { s4 with heap := s4.heap.push { cls := .type "slice", data := .fields #[vl, vu, vs] } }
  refine tail_any (ops := [.ref a, .ref s4.heap.objs.size]) ht.typeIs (PyProof.Rows.slot_tuple_getitem.lookup) ?_ (by with_unfolding_all rfl)
  refine getItem_tuple_rev ht (Heap.IsSliceOf.new _ vl vu vs) pl pu ps ?_ (by rw [List.size_toArray]; omega)
  refine ⟨.ref _, _, I5.laid (t' := s4.toks) (o := .frz { cls := .type "tuple", data := .seq its.toArray.toList.reverse.toArray } (.tup xs.reverse)) (fun b ob q => Heap.get?_push_of_some _ q) (Nat.le_refl _) ?_, rfl, q _ _ (I5.hok.fresh (Nat.le_refl _)) rfl⟩
  exact ⟨Heap.get?_push_size _ rfl, by rw [List.length_reverse]; exact hz, _, r.reverse, IsTup.new _ _⟩
end
end Pk
end
section
set_option maxHeartbeats 4000000
/-! sorted(a tuple or a list of pairs of a text and a number): the pairs in some order. -/
namespace Pk
open PySem PySem.Spec PyProof.Rows L2
/-- v is a tuple of a text and a number in the heap -/
def IsTP (h : Heap) (v : Value) : Prop := ∃ a o x t y u n, v = .ref a ∧ h.get? a = some o ∧ o.cls = .type "tuple" ∧ o.data = .seq #[.str x t, .int y u] n
section
variable {prog : Program} {w : World} {A : Around} {E : Value → Shared → Prop} {s : Shared}
theorem tp_tot {vs : List Value} (hp : ∀ v ∈ vs, IsTP s.heap v) : Srt.Tot prog w A s (tuples' true) (fun p => p.1 ∈ vs) := by
  intro p q hm hm'
  obtain ⟨a, o, x, t, y, u, n, e, ho, hc, hd⟩ := hp _ hm
  obtain ⟨a', o', x', t', y', u', n', e', ho', hc', hd'⟩ := hp _ hm'
  rw [e, e']
  refine ⟨if x = x' then (if y = y' then false else decide (y < y')) else decide (x.cps.toList < x'.cps.toList), ?_⟩
  refine PySem.W.kat_lt ho hd ho' hd' ?_
  show PySem.W.KatLex prog w A true (decide (2 < 2)) _ [(.str x t, .str x' t'), (.int y u, .int y' u')] 0 s
  refine PySem.W.kat_cons (SeqAt.EqAt.str_str x t x' t' prog w _ _ ?_)
  refine PySem.W.kat_go (fun e1 => ?_) (fun e1 => ?_)
  · have ex : x = x' := by simpa using e1
    refine PySem.W.kat_yes (PySem.W.kat_cons (SeqAt.EqAt.int_int y u y' u' prog w _ _ ?_))
    refine PySem.W.kat_go (fun e2 => ?_) (fun e2 => ?_)
    · have ey : y = y' := by simpa using e2
      exact PySem.W.kat_yes (PySem.W.kat_nil ⟨rfl, by rw [if_pos ex, if_pos ey]; rfl⟩)
    · have ey : ¬ y = y' := by simpa using e2
      refine PySem.W.kat_no (PySem.W.kat_one _ _ (PyProof.Rows.lt_int ?_))
      exact (show s = s ∧ decide (y < y') = (if x = x' then (if y = y' then false else decide (y < y')) else decide (x.cps.toList < x'.cps.toList)) from ⟨rfl, by rw [if_pos ex, if_neg ey]⟩)
  · have ex : ¬ x = x' := by simpa using e1
    exact PySem.W.kat_no (oneLt_str ⟨rfl, by rw [if_neg ex]⟩)
theorem tp_firsts {h : Heap} : ∀ {vs : List Value}, (∀ v ∈ vs, IsTP h v) → ∃ fs : List Value, PySem.W.KatTups h vs fs ∧ fs.length = vs.length ∧ ∀ f ∈ fs, ∃ x t, f = Value.str x t
  | [], _ => ⟨[], PySem.W.KatTups.nil, rfl, fun _ hm => by simp at hm⟩
  | v :: vs, hp => by
    obtain ⟨fs, h1, h2, h3⟩ := tp_firsts (vs := vs) fun v' hm => hp v' (List.mem_cons_of_mem _ hm)
    obtain ⟨a, o, x, t, y, u, n, e, ho, hc, hd⟩ := hp v (List.mem_cons_self ..)
    subst e
    refine ⟨.str x t :: fs, PySem.W.KatTups.cons ho hc hd rfl h1, by rw [List.length_cons, List.length_cons, h2], fun f hm => ?_⟩
    rcases List.mem_cons.mp hm with rfl | hm
    · exact ⟨x, t, rfl⟩
    · exact h3 f hm
theorem tp_sortable {a : Addr} {vs : List Value} (h0 : 0 < vs.length) (hp : ∀ v ∈ vs, IsTP s.heap v) (ha : ∀ o, s.heap.get? a = some o → o.cls ≠ .type "tuple") : Srt.Sortable prog w A s a vs := by
  intro h' keep
  have hp' : ∀ v ∈ vs, IsTP h' v := fun v hm => by
    obtain ⟨b, o, x, t, y, u, n, e, ho, hc, hd⟩ := hp v hm
    exact ⟨b, o, x, t, y, u, n, e, keep b o (fun z => by subst z; exact ha o ho hc) ho, hc, hd⟩
  obtain ⟨fs, h1, h2, h3⟩ := tp_firsts hp'
  refine ⟨tuples' true, fun Q E hq => ?_, tp_tot hp'⟩
  refine PySem.W.kat_kind (T := .type "str") h1 (by omega) (fun f hm => ?_) (by rfl) ?_
  · obtain ⟨x, t, rfl⟩ := h3 f hm
    exact PySem.W.Looks.now
  · have e : (Value.type "str" != Value.type "tuple") = true := by first | decide +kernel | rfl | decide
    rw [e]
    exact hq
/-- sorted(it), it a list or a tuple of such pairs -/
theorem sorted_tp {it : Addr} {T : String} {o : Obj} {items : Array Value} {n : Nat} {Q : Value → Shared → Prop} (hT : T = "list" ∨ T = "tuple") (ho : s.heap.get? it = some o) (hc : o.cls = .type T) (hd : o.data = .seq items n) (hz : items.size ≤ sizeLine) (hp : ∀ v ∈ items.toList, IsTP s.heap v)
    (h : ∀ (h' : Heap) (d : Addr) (out : List Value), out.Perm items.toList → (∀ b o, s.heap.get? b = some o → h'.get? b = some o) → (∀ o, s.heap.get? d ≠ some o) → (∃ n, h'.get? d = some (seqObj "list" out.toArray n)) → Q (.ref d) { s with heap := h' }) :
    wpAny (model prog w) A (call (.builtin "sorted") [.ref it]) Q E s := by
  refine Calls.call_function_entry kind_sorted plain_sorted entry_sorted (args_sorted1 _) ?_; unfold Builtin.«sorted»
  refine wpAny_bind (m := checkCount "sorted" 1 1 _) (wpAny_pure (wpAny_bind (wpAny_collect_seq it hT ho hc hd (fun h1 k1 => ?_) hz)))
  have hz' : items.toList.length ≤ sizeLine := by rw [Array.length_toList]; exact hz
  refine wpAny_bind (wpAny_newList ?_ hz')
  have hL : (h1.push (seqObj "list" items.toList.toArray 0)).get? h1.objs.size = some (seqObj "list" items.toList.toArray 0) := Heap.get?_push_size _ rfl
  have kp : ∀ b u, s.heap.get? b = some u → b < h1.objs.size ∧ (h1.push (seqObj "list" items.toList.toArray 0)).get? b = some u := fun b u e => ⟨Heap.lt_size (k1 b u e), Heap.get?_push_of_some _ (k1 b u e)⟩
  have srt : ∀ A' : Around, Srt.Sortable prog w A' { s with heap := h1.push (seqObj "list" items.toList.toArray 0) } h1.objs.size items.toList ∨ items.toList.length < 2 := fun A' => by
    by_cases c : items.toList.length < 2
    · exact .inr c
    refine .inl (tp_sortable (by omega) (fun v hv => ?_) fun u hu => ?_)
    · obtain ⟨b, u, x, t, y, t2, m, e, hb, r⟩ := hp v hv
      exact ⟨b, u, x, t, y, t2, m, e, (kp b u hb).2, r⟩
    · cases (show some u = some (seqObj "list" items.toList.toArray 0) from hu.symm.trans hL)
      intro q
      exact absurd (Value.type.inj q) (by decide)
  refine wpAny_bind (wpAny_holding (wpAny_call_entry slot_list_sort ⟨_, hL, rfl⟩ entry_list_sort (Srt.list_sort_any hL hz' (fun h2 => (srt _).resolve_right (by omega)) fun out hp' => ⟨_, rfl, ?_⟩) (args_list_sort _)))
  refine wpAny_pure ⟨_, rfl, h _ h1.objs.size out hp' (fun b u e => ?_) (fun u e => absurd (kp _ u e).1 (Nat.lt_irrefl _)) (sortedHeap_at hL)⟩
  obtain ⟨lb, q⟩ := kp b u e
  show (sortedHeap (h1.push (seqObj "list" items.toList.toArray 0)) h1.objs.size _ _).get? b = some u
  rw [sortedHeap_old (Nat.ne_of_lt lb) (by rw [Heap.size_push]; exact Nat.lt_succ_of_lt lb)]
  exact q
end
section
variable {X : Cx}
/-- what stands at an address: a text and a number -/
def TPv (H : Hp) (v : V) : Prop := ∃ (t : Addr) (z : Str) (i : Int), v = .ref t ∧ Rd H t (.tup [.str z, .int i])
theorem tpv_is {pins : List (Addr × Obj)} {σ : L2.St} {H : Hp} {s : Shared} (I : L2.Inv X pins σ H s) {x : V} {u : Value} (r : RelV x u) (h : TPv H x) : IsTP s.heap u ∧ (∃ a, u = .ref a) := by
  obtain ⟨t, z, i, rfl, ht⟩ := h
  obtain rfl : u = Value.ref t := r
  obtain ⟨its, rv, ⟨o, ho, hc, n, hd⟩, _⟩ := I.tuple (.inl ht : SqT X.K H t [.str z, .int i])
  obtain ⟨u1, u2, rfl, ri, rj⟩ := vals2 rv
  obtain ⟨t1, rfl⟩ := ri
  obtain ⟨t2, rfl⟩ := rj
  exact ⟨⟨t, o, z, t1, i, t2, n, rfl, ho, hc, hd⟩, t, rfl⟩
theorem cr_sortedTP : CallR X (.builtin "sorted") (fun vs H Q => ∃ (a : Addr) (xs : List V), vs = [V.ref a] ∧ (SqL X.K H a xs ∨ SqT X.K H a xs) ∧ (∀ x ∈ xs, TPv H x) ∧ ∀ (ys : List V) (p : Addr), ys.Perm xs → H p = none → Q (.ref p) (upd H p (.lst ys))) := by
  intro pins s σ H vs us Q I r h
  obtain ⟨a, xs, rfl, hs, hx, q⟩ := h
  obtain ⟨u, rfl, ru⟩ := vals1 r
  obtain rfl : u = Value.ref a := ru
  have fin : ∀ (its : List Value) (T : String) (o : Obj) (n : Nat), Vals xs its → xs.length ≤ sizeLine → T = "list" ∨ T = "tuple" → s.heap.get? a = some o → o.cls = .type T → o.data = .seq its.toArray n → wpAny (model X.prog X.w) X.A (call (.builtin "sorted") [.ref a]) (EP X pins σ Q) X.xe s := fun its T o n rv hz hT ho hc hd => by
    have key : ∀ {xs : List V} {its : List Value}, Vals xs its → (∀ x ∈ xs, TPv H x) → xs = its.map L2.backV ∧ ∀ v ∈ its, IsTP s.heap v ∧ ∃ a, v = Value.ref a := fun {xs its} rv => by
      induction rv with
      | nil => exact fun _ => ⟨rfl, fun v hv => absurd hv (by simp)⟩
      | cons r1 rt ih =>
        intro h
        obtain ⟨e, f⟩ := ih fun y hy => h y (List.mem_cons_of_mem _ hy)
        obtain ⟨g1, b, g2⟩ := tpv_is I r1 (h _ List.mem_cons_self)
        subst g2
        obtain ⟨t, _, _, e2, _⟩ := h _ List.mem_cons_self
        refine ⟨?_, fun v hv => ?_⟩
        · rw [List.map_cons, ← e]
          subst e2
          cases r1
          rfl
        · rcases List.mem_cons.mp hv with rfl | hv
          · exact ⟨g1, b, rfl⟩
          · exact f v hv
    obtain ⟨e1, e2⟩ := key rv hx
    refine sorted_tp hT ho hc hd (by rw [List.size_toArray, ← rv.length]; exact hz) (fun v hv => (e2 v hv).1) fun h' d out hp k hd0 hn => ?_
    have h3 : ∀ u ∈ out, ∃ a, u = Value.ref a := fun u hu => (e2 u (hp.mem_iff.mp hu)).2
    obtain ⟨m, hm⟩ := hn
    have hnone : s.heap.get? d = none := by
      cases c : s.heap.get? d with
      | none => rfl
      | some o => exact absurd c (hd0 o)
    have hHn : H d = none := by
      cases c : H d with
      | none => rfl
      | some o =>
        obtain ⟨u, hu⟩ := objOk_get (I.hok d o c)
        exact absurd hu (hd0 u)
    refine ⟨.ref d, upd H d (.lst (out.map L2.backV)), I.laidN (t' := s.toks) k hnone hHn ⟨?_, out, m, L2.vals_back h3, hm⟩, rfl, q _ d ?_ hHn⟩
    · rw [List.length_map, hp.length_eq, ← rv.length]
      exact hz
    · rw [e1]
      exact hp.map L2.backV
  rcases hs with hs | hs
  · obtain ⟨its, rv, pl, hz⟩ := I.list hs
    obtain ⟨o, ho, hc, n, hd⟩ := pl.isList
    exact fin its "list" o n rv hz (.inl rfl) ho hc hd
  · obtain ⟨its, rv, ⟨o, ho, hc, n, hd⟩, hz⟩ := I.tuple hs
    exact fin its "tuple" o n rv hz (.inr rfl) ho hc hd
end
end Pk
end
section
set_option maxHeartbeats 1000000
/-! The law's own: all numbers of a house, in their order. -/
namespace Pk
open PySem PySem.Spec PyProof.Rows L2
abbrev sLAll : Stmt := topH 74
/-- t + u, u not empty -/
theorem op_catG {X : Cx} : OpR X (binaryOp .Add) (fun x y H Q => ∃ (a b : Addr) (xs ys : List V), x = .ref a ∧ y = .ref b ∧ H a = some (.tup xs) ∧ H b = some (.tup ys) ∧ ys ≠ [] ∧ xs.length + ys.length ≤ sizeLine ∧ ∀ (t : Addr) (H' : Hp), Same H H' → H' t = some (.tup (xs ++ ys)) → Q (.ref t) H') := by
  intro pins s σ H x y v u Q I rx ry h
  obtain ⟨a, b, xs, ys, rfl, rfl, ha, hb, ne, hz, q⟩ := h
  refine op_catA pins s σ H _ _ v u Q I rx ry ⟨a, b, xs, ys, rfl, rfl, SqT.of ha, SqT.of hb, hz, fun e => q b H (Same.refl _) (by rw [e]; exact hb), fun _ e => absurd e ne, fun _ _ p np => q p _ (sameNew np _) upd_same⟩
theorem small5000 {n : Nat} (h : n ≤ 5000) : n < sizeLine := by
  rw [sizeLine_eq]
  omega
/-- a list of tuples of numbers -/
structure NumsL (H : Hp) (l : Addr) (as : List Addr) (fs : List (List Int)) : Prop where
  lst : H l = some (.lst (as.map V.ref))
  pr : PySem.Paired (NumAt H) as fs
theorem nums_same {H H' : Hp} (s : Same H H') {as : List Addr} {fs : List (List Int)} (h : PySem.Paired (NumAt H) as fs) : PySem.Paired (NumAt H') as fs := L2.Paired.mapP h fun a z e => s _ _ e
theorem nums_upd {H : Hp} {a : Addr} {o : HO} {xs : List V} {as : List Addr} {fs : List (List Int)} (h : PySem.Paired (NumAt H) as fs) (e : H a = some (.lst xs)) : PySem.Paired (NumAt (upd H a o)) as fs := L2.Paired.mapP h fun b z q => by
  show upd H a o b = _
  rw [upd_ne (ne_of q e (by intro z; cases z))]
  exact q
theorem nums_get {H : Hp} {as : List Addr} {fs : List (List Int)} (h : PySem.Paired (NumAt H) as fs) {j : Nat} {a : Addr} (e : as[j]? = some a) : ∃ is, fs[j]? = some is ∧ NumAt H a is := by
  induction h generalizing j with
  | nil => simp at e
  | @cons b is as fs h t ih =>
    cases j with
    | zero =>
      have e' : b = a := by simpa using e
      rw [← e']
      exact ⟨is, rfl, h⟩
    | succ j => exact ih (by simpa using e)
theorem flat_more {α β : Type} {f : α → List β} {l : List α} {j : Nat} {x : α} (e : l[j]? = some x) : (l.take (j + 1)).flatMap f = (l.take j).flatMap f ++ f x := by
  rw [take_more e, List.flatMap_append, List.flatMap_cons, List.flatMap_nil, List.append_nil]
def spLAll : Sp := fun vs H Q _ => ∃ (h : Addr) (ds rs : List PyData), vs = [.ref h] ∧ HouseAt H h ds rs ∧ (∀ i, i ≤ ds.length → (boxN (ds.take i)).length ≤ 2000) ∧
  ∀ (l : Addr) (as : List Addr) (H' : Hp), Same H H' → H' l = some (.lst (as.map V.ref)) → PySem.Paired (NumAt H') as (boxN ds) → Q (.ref l) H'
section
variable {P : Program} {w : World} {K : PySem.W.Frag} {mg : Str → Option Value} {base : Heap}
abbrev nLAll : List Str := ["_law_house_here", "_law_lot", "_law_dial_here", "_law_longer", "_law_one", "_law_number"]
theorem scLAll : FnScope nLAll ["_law_house_here"] (defScope sLAll) := ⟨rfl, rfl, rfl, by decide +kernel, rfl, by decide +kernel, by decide +kernel⟩
theorem ok_lall {f : Addr} {fd : FuncData} (F : Fun K "_law_all" "_law_all" sLAll f fd) (mR : mg "range" = none) : FnOk P w K mg base CX0 1 f fd ["_law_house_here"] spLAll := by
  refine F.ok scLAll (fun vs H Q E h => ?_) (fun cdv A outer s H vs Q E hr h => ?_)
  · obtain ⟨h, ds, rs, rfl, _⟩ := h
    rfl
  obtain ⟨h, ds, rs, rfl, ha, hw, k⟩ := h
  refine ⟨_, pss_cons (ps_set (i := 1) scLAll.nd rfl (.inl rfl) (pe_lst (pa_cons (pe_tup pa_nil) pa_nil))) <|
    pss_cons (ps_for PassesOwn.never rfl (pi_tup (pe_ix ix_tup (pv 0) pe_int (fun _ _ => rfl))) (pg_name (i := 2) scLAll.nd rfl (.inl rfl))
      (pss_cons (ps_set (i := 3) scLAll.nd rfl (.inl rfl) (pe_lst pa_nil)) <|
       pss_cons (ps_for PassesOwn.never rfl (pi_list (pv 1)) (pg_name (i := 4) scLAll.nd rfl (.inr rfl))
        (pss_one (ps_expr (pe_bm PySem.F.plainAttrs_list PySem.F.slot_list_extend PySem.F.type_list_extend mt_extend (pv 3) (pa_cons (pe_lc (own := [("_law_number", 5)]) (g := gName 5) (by rfl) scLAll.nd (pi_range2 (by rfl) mR (pa_cons (pe_ix ix_tup (pv 2) pe_int (fun _ _ => rfl)) (pa_cons (pe_op op_add (pe_ix ix_tup (pv 2) pe_int (fun _ _ => rfl)) pe_int) pa_nil))) (blkOk_by (N := nLAll) (sc := defScope sLAll) (by decide +kernel)) (fun _ _ _ _ _ => pg_name (i := 5) scLAll.nd rfl (Or.inl rfl)) (fun _ _ _ _ _ => pts_nil) (fun _ _ _ _ _ => pe_op op_catG (pv 4) (pe_tup (pa_cons (pv 5) pa_nil)))) pa_nil))))) <|
       pss_one (ps_set (i := 1) scLAll.nd rfl (.inl rfl) (pv 3)))) <|
    pss_one (ps_ret (pv 1)), ?_⟩
  have th := ha.tr
  cases th with
  | @tup _ hs _ hh al =>
  revert hh
  match hs, al with
  | [_, _], .cons (@Tr.tup _ b ys _ hB alB) (.cons tB .nil) =>
  intro hh
  have lB := alB.length
  have d12 := ha.hg.d2
  have ff : farS = 1000000000000000000 := rfl
  have szl := sizeLine_eq
  refine ⟨by show 0 ≤ sizeLine; decide, fun T nT => ⟨by show 1 ≤ sizeLine; decide, fun L nL => ?_⟩⟩
  have sA := sameNew nT (.tup [])
  have sB := sA.trans (sameNew nL (.lst [.ref T]))
  have hL : upd (upd H T (.tup [])) L (.lst [.ref T]) L = some (.lst (([T] : List Addr).map V.ref)) := upd_same
  have hT : upd (upd H T (.tup [])) L (.lst [.ref T]) T = some (.tup []) := sameNew nL _ _ _ upd_same
  generalize upd (upd H T (.tup [])) L (.lst [.ref T]) = H1 at sB hL hT ⊢
  refine ⟨_, rfl, h, _, _, _, rfl, rfl, .inl (hh.map (sB _)), (rfl : atI [V.ref b, _] 0 = some (.ref b)), b, rfl, ⟨_, .inl (hB.map (sB _))⟩, for_tup (K := K) (a := b) (xs := ys) (fun i σ H2 => ∃ (l : Addr) (as : List Addr) (v2 v3 v4 : Option V), σ = [some (.ref h), some (.ref l), v2, v3, v4, none] ∧ Same H H2 ∧ H2 l = some (.lst (as.map V.ref)) ∧ PySem.Paired (NumAt H2) as (boxN (ds.take i)))
    ⟨L, [T], none, none, none, rfl, sB, hL, .cons (show H1 T = some (.tup ([] : List V)) from hT) .nil⟩ (fun i σ H2 _ ⟨_, _, _, _, _, _, s2, _⟩ => .inl (hB.map (s2 _))) ?_ ?_⟩
  · rintro i y σ H2 hy ⟨l, as, v2, v3, v4, rfl, s2, hl, has⟩
    obtain ⟨d, hd, td⟩ := alB.get hy
    have il : i < ds.length := (List.getElem?_eq_some_iff.mp hd).1
    have hdm := List.mem_of_getElem? hd
    obtain ⟨bd, nm, way, lo, hi, up, dn, rfl, hbd, q1, q2, q3, _, ed⟩ := dial_tup td (ha.hg.dials d hdm)
    have ee : endsD d = (lo, hi) := by rw [ed]; rfl
    have hb1 := hw (i + 1) il
    rw [boxN_more hd, boxS_len] at hb1
    have hbL : spanL d = upI lo (hi + 1 - lo).toNat := by
      unfold spanL
      rw [ee]
    have lacc := PySem.Paired.length has
    have hin : ∀ x ∈ boxN (ds.take i), x.length = i := fun x hx => by
      rw [(mem_box.mp hx).len, List.length_take]
      omega
    generalize hacc : boxN (ds.take i) = acc at has hb1 lacc hin
    refine ⟨by show 0 ≤ sizeLine; decide, fun M nM => ?_⟩
    have sM := sameNew nM (.lst [])
    have hM0 : upd H2 M (.lst []) M = some (.lst (([] : List Addr).map V.ref)) := upd_same
    generalize upd H2 M (.lst []) = H3 at sM hM0 ⊢
    have lM : l ≠ M := fun z => by rw [z, nM] at hl; cases hl
    refine ⟨_, rfl, l, rfl, ⟨_, SqL.of (sM _ _ hl)⟩, for_list (K := K) (a := l) (xs := as.map V.ref) (fun j σ H4 => ∃ (bs : List Addr) (v4 : Option V), σ = [some (.ref h), some (.ref l), some (.ref bd), some (.ref M), v4, none] ∧ Same H2 H4 ∧ H4 M = some (.lst (bs.map V.ref)) ∧ PySem.Paired (NumAt H4) bs (boxS (acc.take j) d))
      ⟨[], v4, rfl, sM, hM0, .nil⟩ (fun j σ H4 _ ⟨_, _, _, s4, _⟩ => SqL.of (s4 _ _ hl)) ?_ ?_⟩
    · rintro j x σ H4 hx ⟨bs, v4', rfl, s4, hM, hbs⟩
      rw [List.getElem?_map] at hx
      obtain ⟨a, hax, rfl⟩ := Option.map_eq_some_iff.mp hx
      have jl : j < as.length := (List.getElem?_eq_some_iff.mp hax).1
      obtain ⟨is, his, hia⟩ := nums_get has hax
      have lis := hin is (List.mem_of_getElem? his)
      have lsp : (spanL d).length ≤ 2000 := by
        refine Nat.le_trans ?_ hb1
        refine Nat.le_mul_of_pos_left _ ?_
        omega
      rw [hbL, upI_len] at lsp
      have lbs := PySem.Paired.length hbs
      have lbs2 : bs.length ≤ 2000 := by
        rw [lbs, boxS_len]
        refine Nat.le_trans (Nat.mul_le_mul_right _ ?_) hb1
        rw [List.length_take]
        omega
      have hia4 := s4 _ _ hia
      have hbd4 : SqT K H4 bd [V.str nm, V.int lo, V.int hi, V.str way, V.int up, V.int dn] := .inl (hbd.map fun o e => s4 _ _ (s2 _ _ e))
      refine ⟨_, rfl, .inl ⟨rfl, _, SqL.of hM⟩, _, rfl, bd, _, _, _, rfl, rfl, hbd4, rfl, _, rfl, bd, _, _, _, rfl, rfl, hbd4, rfl, _, _, rfl, rfl, lo, hi + 1, rfl, ⟨by omega, by omega, by omega, by omega⟩, fun D nD => ?_⟩
      have DM : D ≠ M := fun z => by rw [z, hM] at nD; cases nD
      refine lc_range (lo := lo) (n := (hi + 1 - lo).toNat) (fun m H5 => ∃ cs : List Addr, H5 D = some (.lst (cs.map V.ref)) ∧ Same H4 H5 ∧ PySem.Paired (NumAt H5) cs ((upI lo m).map fun n => is ++ [n]))
        ⟨[], upd_same, sameNew nD _, .nil⟩ ?_ ?_
      · rintro m H5 hm ⟨cs, e5, s5, n5⟩
        have l5 := PySem.Paired.length n5
        rw [List.length_map, upI_len] at l5
        refine ⟨rfl, _, rfl, _, rfl, by show 1 ≤ sizeLine; decide, fun U nU => ?_⟩
        have sU := sameNew nU (.tup [.int (lo + (m : Nat))])
        have hU : upd H5 U (.tup [.int (lo + (m : Nat))]) U = some (.tup [.int (lo + (m : Nat))]) := upd_same
        generalize upd H5 U (.tup [.int (lo + (m : Nat))]) = H6 at sU hU ⊢
        refine ⟨a, U, _, _, rfl, rfl, sU _ _ (s5 _ _ hia4), hU, by simp, by rw [List.length_map]; show _ + 1 ≤ sizeLine; omega, fun t H7 s7 ht => ?_⟩
        have e7 := s7 _ _ (sU _ _ e5)
        have s57 := sU.trans s7
        refine ⟨_, e7, small5000 (by rw [List.length_map]; omega), cs ++ [t], by rw [upd_same, List.map_append]; rfl, fun b o e => ?_, ?_⟩
        · rw [upd_ne (ne_of_none e nD)]
          exact s57 _ _ (s5 _ _ e)
        · show PySem.Paired _ _ ((upI lo m ++ [lo + (m : Nat)]).map _)
          rw [List.map_append]
          refine nums_upd (paired_snoc (nums_same s57 n5) (?_ : NumAt H7 t (is ++ [lo + (m : Nat)]))) e7
          show H7 t = _
          rw [ht, List.map_append]
          rfl
      · rintro H5 ⟨cs, e5, s5, n5⟩
        have hM5 := s5 _ _ hM
        have l5 := PySem.Paired.length n5
        rw [List.length_map, upI_len] at l5
        refine ⟨M, D, _, _, rfl, rfl, hM5, e5, by rw [List.length_map, List.length_map]; omega, ?_⟩
        refine ⟨bs ++ cs, _, rfl, fun b o e => ?_, by rw [upd_same, List.map_append], ?_⟩
        · rw [upd_ne (ne_of_none e nM)]
          exact s5 _ _ (s4 _ _ e)
        · have eb : boxS (acc.take (j + 1)) d = boxS (acc.take j) d ++ (upI lo (hi + 1 - lo).toNat).map fun n => is ++ [n] := by
            unfold boxS
            rw [flat_more his, hbL]
          rw [eb]
          exact nums_upd (paired_app (nums_same s5 hbs) n5) hM5
    · rintro σ H4 ⟨bs, v4', rfl, s4, hM, hbs⟩
      rw [List.length_map, lacc, List.take_length] at hbs
      refine ⟨_, rfl, M, bs, _, _, _, rfl, s2.trans s4, hM, ?_⟩
      rw [boxN_more hd, hacc]
      exact hbs
  · rintro σ H2 ⟨l, as, v2, v3, v4, rfl, s2, hl, has⟩
    rw [lB, List.take_length] at has
    exact ⟨_, rfl, k l as H2 s2 hl has⟩
end
end Pk
end
section
set_option maxHeartbeats 1000000
/-! The law's own: what lies beside a standing. -/
namespace Pk
open PySem PySem.Spec PyProof.Rows L2
abbrev sLBes : Stmt := topH 77
/-- a tuple of numbers and what it uses -/
def LotAt (H : Hp) (q : Addr) (e : List Int × Int) : Prop := ∃ o, H q = some (.tup [.ref o, .int e.2]) ∧ NumAt H o e.1
theorem LotAt.same {H H' : Hp} (s : Same H H') {q : Addr} {e : List Int × Int} (h : LotAt H q e) : LotAt H' q e := let ⟨o, h1, h2⟩ := h; ⟨o, s _ _ h1, s _ _ h2⟩
theorem lot_same {H H' : Hp} (s : Same H H') {as : List Addr} {fs : List (List Int × Int)} (h : PySem.Paired (LotAt H) as fs) : PySem.Paired (LotAt H') as fs := L2.Paired.mapP h fun a z e => e.same s
theorem lot_upd {H : Hp} {a : Addr} {o : HO} {xs : List V} {as : List Addr} {fs : List (List Int × Int)} (h : PySem.Paired (LotAt H) as fs) (e : H a = some (.lst xs)) : PySem.Paired (LotAt (upd H a o)) as fs := L2.Paired.mapP h fun b z ⟨x, h1, h2⟩ => ⟨x, by rw [upd_ne (ne_of h1 e (by intro z; cases z))]; exact h1, by
  show upd H a o x = _
  rw [upd_ne (ne_of h2 e (by intro z; cases z))]
  exact h2⟩
theorem pair_get {α β : Type} {R : α → β → Prop} {as : List α} {fs : List β} (h : PySem.Paired R as fs) {j : Nat} {a : α} (e : as[j]? = some a) : ∃ b, fs[j]? = some b ∧ R a b := by
  induction h generalizing j with
  | nil => simp at e
  | @cons x y as fs h t ih =>
    cases j with
    | zero =>
      have e' : x = a := by simpa using e
      rw [← e']
      exact ⟨y, rfl, h⟩
    | succ j => exact ih (by simpa using e)
theorem besF_more (str : Int) (p : PyData × Int) (q : List Int × Int) (n : Nat) : besF str p q (n + 1) = besF str p q n ++ (if (decide (q.2 - str + (n : Nat) = 0) || mayD p.1 p.2 (.int (p.2 + (q.2 - str + (n : Nat))))) = true then [(q.1 ++ [p.2 + (q.2 - str + (n : Nat))], q.2 + absI (q.2 - str + (n : Nat)))] else []) := by
  unfold besF turnsL
  show List.map _ (List.filter _ (upI _ n ++ [_])) = _
  rw [List.filter_append, List.map_append]
  congr 1
  by_cases c : (decide (q.2 - str + (n : Nat) = 0) || mayD p.1 p.2 (.int (p.2 + (q.2 - str + (n : Nat))))) = true
  · rw [if_pos c, List.filter_cons_of_pos (p := fun b => decide (b = 0) || mayD p.1 p.2 (.int (p.2 + b))) c]
    rfl
  · rw [if_neg c, List.filter_cons_of_neg (p := fun b => decide (b = 0) || mayD p.1 p.2 (.int (p.2 + b))) c]
    rfl
def spLBes : Sp := fun vs H Q _ => ∃ (h t : Addr) (ds rs : List PyData) (is : List Int) (str : Int), vs = [.ref h, .ref t, .int str] ∧ HouseAt H h ds rs ∧ H t = some (.tup (is.map V.int)) ∧ is.length = ds.length ∧ 0 ≤ str ∧ str ≤ 3 ∧ ds.length ≤ 3 ∧
  ∀ (l : Addr) (as : List Addr) (H' : Hp), Same H H' → H l = none → H' l = some (.lst (as.map V.ref)) → PySem.Paired (NumAt H') as ((besN str (ds.zip is)).map (·.1)) → Q (.ref l) H'
section
variable {P : Program} {w : World} {K : PySem.W.Frag} {mg : Str → Option Value} {base : Heap}
abbrev nLBes : List Str := ["_law_house_here", "_law_here", "_law_places", "_law_lot", "_law_k", "_law_longer", "_law_one", "_law_used", "_law_by"]
theorem scLBes : FnScope nLBes ["_law_house_here", "_law_here", "_law_places"] (defScope sLBes) := ⟨rfl, rfl, rfl, by decide +kernel, rfl, by decide +kernel, by decide +kernel⟩
theorem ok_lbes {f g1 : Addr} {fd d1 : FuncData} (F : Fun K "_law_beside" "_law_beside" sLBes f fd) (B : Blt mg) (mR : mg "range" = none) (mA : mg "abs" = none)
    (G1 : FnOk P w K mg base CX0 1 g1 d1 ["_law_dial_here", "_law_one", "_law_other"] spLMay) (b1 : Binds K d1 ["_law_dial_here", "_law_one", "_law_other"] []) (k1 : PySem.W.keepIn K (.ref g1) = true) (m1 : mg "_law_may" = some (.ref g1)) :
    FnOk P w K mg base CX0 2 f fd ["_law_house_here", "_law_here", "_law_places"] spLBes := by
  refine F.ok scLBes (fun vs H Q E h => ?_) (fun cdv A outer s H vs Q E hr h => ?_)
  · obtain ⟨h, t, ds, rs, is, str, rfl, _⟩ := h
    rfl
  obtain ⟨h, t, ds, rs, is, str, rfl, ha, ht, li, st0, st3, d3, k⟩ := h
  have hr1 : Room 1 _ := hr.mono (by decide)
  refine ⟨_, pss_cons (ps_set (i := 3) scLBes.nd rfl (.inl rfl) (pe_lst (pa_cons (pe_tup (pa_cons (pe_tup pa_nil) (pa_cons pe_int pa_nil))) pa_nil))) <|
    pss_cons (ps_for PassesOwn.never rfl (pi_range1 rfl mR (pa_cons (pe_callB call_len_seq (by rfl) B.len PySem.boot_len (pa_cons (pv 1) pa_nil)) pa_nil)) (pg_name (i := 4) scLBes.nd rfl (.inl rfl))
      (pss_cons (ps_set (i := 5) scLBes.nd rfl (.inl rfl) (pe_lst pa_nil)) <|
       pss_cons (ps_for PassesOwn.never rfl (pi_list (pv 3)) (pg_tup rfl (pgs_cons (pg_name (i := 6) scLBes.nd rfl (.inl rfl)) (pgs_cons (pg_name (i := 7) scLBes.nd rfl (.inl rfl)) pgs_nil)))
        (pss_one (ps_for PassesOwn.never rfl (pi_range2 (by rfl) mR (pa_cons (pe_op op_sub (pv 7) (pv 2)) (pa_cons (pe_op op_add (pe_op op_sub (pv 2) (pv 7)) pe_int) pa_nil))) (pg_name (i := 8) scLBes.nd rfl (.inl rfl))
          (pss_one (ps_if (PW.pt (pw_or (pt_cmpR op_eq (pv 8) pe_int (nomark _)) (pw_or1 (pt_val (pe_call G1 hr1 rfl m1 k1 b1 .nil pass0 (pa_cons (pe_ix ix_tup (pe_ix ix_tup (pv 0) pe_int (fun _ _ => rfl)) (pv 4) (fun _ _ => rfl)) (pa_cons (pe_ix ix_tup (pv 1) (pv 4) (fun _ _ => rfl)) (pa_cons (pe_op op_add (pe_ix ix_tup (pv 1) (pv 4) (fun _ _ => rfl)) (pv 8)) pa_nil)))))))) 
            (pss_one (ps_expr (pe_bm PySem.F.plainAttrs_list PySem.F.slot_list_append PySem.F.type_list_append mt_append (pv 5) (pa_cons (pe_tup (pa_cons (pe_op op_catG (pv 6) (pe_tup (pa_cons (pe_op op_add (pe_ix ix_tup (pv 1) (pv 4) (fun _ _ => rfl)) (pv 8)) pa_nil))) (pa_cons (pe_op op_add (pv 7) (pe_callB call_abs (by rfl) mA (by decide +kernel) (pa_cons (pv 8) pa_nil))) pa_nil))) pa_nil)))) pss_nil))))) <|
       pss_one (ps_set (i := 3) scLBes.nd rfl (.inl rfl) (pv 5)))) <|
    pss_one (ps_ret (pe_lc (own := [("_law_one", 6), ("_law_used", 7)]) (g := gTup K 2 (gCons (gName 6) (gCons (gName 7) gNil))) (by rfl) scLBes.nd (pi_list (pv 3)) (blkOk_by (N := nLBes) (sc := defScope sLBes) (by decide +kernel)) (fun _ _ _ _ _ => pg_tup rfl (pgs_cons (pg_name (i := 6) scLBes.nd rfl (Or.inl rfl)) (pgs_cons (pg_name (i := 7) scLBes.nd rfl (Or.inl rfl)) pgs_nil))) (fun _ _ _ _ _ => pts_nil) (fun _ _ _ _ _ => pv 6))), ?_⟩
  have szl := sizeLine_eq
  have th := ha.tr
  cases th with
  | @tup _ hs _ hh al =>
  revert hh
  match hs, al with
  | [_, _], .cons (@Tr.tup _ b ys _ hB alB) (.cons tB .nil) =>
  intro hh
  have lB := alB.length
  have ff : farS = 1000000000000000000 := rfl
  refine ⟨by show 0 ≤ sizeLine; decide, fun T0 n0 => ⟨by show 2 ≤ sizeLine; decide, fun T1 n1 => ⟨by show 1 ≤ sizeLine; decide, fun L nL => ?_⟩⟩⟩
  have sA := sameNew n0 (.tup [])
  have hA : upd H T0 (.tup []) T0 = some (.tup []) := upd_same
  generalize upd H T0 (.tup []) = H1 at sA hA n1 nL ⊢
  have sB := sameNew n1 (.tup [.ref T0, .int 0])
  have hB1 : upd H1 T1 (.tup [.ref T0, .int 0]) T1 = some (.tup [.ref T0, .int 0]) := upd_same
  generalize upd H1 T1 (.tup [.ref T0, .int 0]) = H2 at sB hB1 nL ⊢
  have sC := sameNew nL (.lst [.ref T1])
  have hL : upd H2 L (.lst [.ref T1]) L = some (.lst (([T1] : List Addr).map V.ref)) := upd_same
  generalize upd H2 L (.lst [.ref T1]) = H3 at sC hL ⊢
  have s3 := sA.trans (sB.trans sC)
  have ht3 := s3 _ _ ht
  refine ⟨_, rfl, t, is.map V.int, rfl, .inr (SqT.of ht3), _, rfl, by rw [List.length_map]; omega, by rw [List.length_map]; omega, ?_⟩
  have hN : (((is.map V.int).length : Nat) : Int).toNat = is.length := by rw [List.length_map]; exact Int.toNat_natCast _
  have hz : (ds.zip is).length = is.length := by rw [List.length_zip]; omega
  refine for_range (n := (((is.map V.int).length : Nat) : Int).toNat) (fun i σ H4 => ∃ (l : Addr) (qs : List Addr) (v4 v5 v6 v7 v8 : Option V), σ = [some (.ref h), some (.ref t), some (.int str), some (.ref l), v4, v5, v6, v7, v8] ∧ Same H H4 ∧ H4 l = some (.lst (qs.map V.ref)) ∧ PySem.Paired (LotAt H4) qs (besN str ((ds.zip is).take i)))
    ⟨L, [T1], none, none, none, none, none, rfl, s3, hL, .cons ⟨T0, sC _ _ hB1, sC _ _ (sB _ _ hA)⟩ .nil⟩ ?_ ?_
  · rintro i σ H4 hi ⟨l, qs, v4, v5, v6, v7, v8, rfl, s4, hl, hqs⟩
    rw [hN] at hi
    rw [show (0 : Int) + (i : Nat) = ((i : Nat) : Int) from Int.zero_add _]
    have hj : is[i]? = some is[i] := List.getElem?_eq_getElem hi
    generalize is[i] = j at hj
    have hx : ys[i]? = some (ys[i]'(by omega)) := List.getElem?_eq_getElem _
    generalize ys[i]'(by omega) = x at hx
    obtain ⟨d, hd, td⟩ := alB.get hx
    have hp : (ds.zip is)[i]? = some (d, j) := by
      rw [List.getElem?_zip_eq_some]
      exact ⟨hd, hj⟩
    have dg := ha.hg.dials d (List.mem_of_getElem? hd)
    have us := bes_used st0 st3 (ps := (ds.zip is).take i)
    have bl := bes_len st0 st3 ((ds.zip is).take i)
    have p49 : 7 ^ ((ds.zip is).take i).length ≤ 49 := Nat.le_trans (Nat.pow_le_pow_right (by decide) (show _ ≤ 2 by rw [List.length_take]; omega)) (by decide)
    have lq := PySem.Paired.length hqs
    have bl1 : ∀ m, (besS str ((besN str ((ds.zip is).take i)).take m) (d, j)).length ≤ 343 := fun m => by
      refine Nat.le_trans (bes_len1 (m := 7) fun q hq => (us q (List.mem_of_mem_take hq)).2.2) ?_
      rw [List.length_take]
      omega
    have onl : ∀ q ∈ besN str ((ds.zip is).take i), q.1.length ≤ 12 := fun q hq => by
      have := PySem.Paired.length ((mem_bes st0).mp (show (q.1, q.2) ∈ _ from hq)).1
      rw [List.length_take] at this
      omega
    rw [besN_more hp]
    generalize besN str ((ds.zip is).take i) = acc at hqs us bl lq bl1 onl ⊢
    refine ⟨by show 0 ≤ sizeLine; decide, fun M nM => ?_⟩
    have sM := sameNew nM (.lst [])
    have hM0 : upd H4 M (.lst []) M = some (.lst (([] : List Addr).map V.ref)) := upd_same
    generalize upd H4 M (.lst []) = H5 at sM hM0 ⊢
    refine ⟨_, rfl, l, rfl, ⟨_, SqL.of (sM _ _ hl)⟩, for_list (K := K) (a := l) (xs := qs.map V.ref) (fun m σ H6 => ∃ (bs : List Addr) (v6 v7 v8 : Option V), σ = [some (.ref h), some (.ref t), some (.int str), some (.ref l), some (.int (i : Nat)), some (.ref M), v6, v7, v8] ∧ Same H4 H6 ∧ H6 M = some (.lst (bs.map V.ref)) ∧ PySem.Paired (LotAt H6) bs (besS str (acc.take m) (d, j)))
      ⟨[], v6, v7, v8, rfl, sM, hM0, .nil⟩ (fun m σ H6 _ ⟨_, _, _, _, _, s6, _⟩ => SqL.of (s6 _ _ hl)) ?_ ?_⟩
    · rintro m y σ H6 hy ⟨bs, v6', v7', v8', rfl, s6, hM6, hbs⟩
      rw [List.getElem?_map] at hy
      obtain ⟨q, hq, rfl⟩ := Option.map_eq_some_iff.mp hy
      obtain ⟨⟨one, u⟩, he, o, hq4, ho4'⟩ := pair_get hqs hq
      have heM := List.mem_of_getElem? he
      obtain ⟨u0, u1, u2⟩ := us _ heM
      have u0' : 0 ≤ u := u0
      have u1' : u ≤ str := u1
      have onl' : one.length ≤ 12 := onl _ heM
      have hq6 := s6 _ _ hq4
      have lbs := PySem.Paired.length hbs
      have lb1 := bl1 m
      have lb2 := bl1 (m + 1)
      have ebS : besS str (acc.take (m + 1)) (d, j) = besS str (acc.take m) (d, j) ++ besF str (d, j) (one, u) (manyT str u) := by
        unfold besS
        rw [flat_more he]
      have bF : ∀ n, (besF str (d, j) (one, u) n).length ≤ n := fun n => by
        unfold besF turnsL
        rw [List.length_map]
        refine Nat.le_trans (filter_le _ _) ?_
        rw [upI_len]
        exact Nat.le_refl _
      have u2' : manyT str u ≤ 7 := u2
      have ho4 : H6 o = some (.tup (one.map V.int)) := s6 _ _ ho4'
      have nM4 : H4 M = none := nM
      refine ⟨q, _, rfl, SqT.of hq6, rfl, _, _, rfl, _, _, rfl, rfl, ?_⟩
      refine ⟨_, rfl, _, rfl, _, _, rfl, rfl, _, rfl, _, rfl, _, _, rfl, rfl, _, _, rfl, rfl, u - str, str - u + 1, rfl, ⟨by omega, by omega, by omega, by omega⟩, ?_⟩
      refine for_range (lo := u - str) (n := manyT str u) (fun c σ H5 => ∃ (cs : List Addr) (v8 : Option V), σ = [some (.ref h), some (.ref t), some (.int str), some (.ref l), some (.int (i : Nat)), some (.ref M), some (.ref o), some (.int u), v8] ∧ Same H4 H5 ∧ H5 M = some (.lst (cs.map V.ref)) ∧ PySem.Paired (LotAt H5) cs (besS str (acc.take m) (d, j) ++ besF str (d, j) (one, u) c))
        ⟨bs, v8', rfl, s6, hM6, by rw [show besF str (d, j) (one, u) 0 = [] from rfl, List.append_nil]; exact hbs⟩ ?_ ?_
      · rintro c σ H5 hc ⟨cs, v8'', rfl, s5, hM5, pr5⟩
        have nMH : H4 M = none := nM
        have lcs := PySem.Paired.length pr5
        rw [List.length_append] at lcs
        have bFc := bF c
        have ht5 := s5 _ _ (s4 _ _ ht)
        have keepH4 : ∀ {b : Addr} {o : HO}, H4 b = some o → H5 b = some o := fun e => s5 _ _ e
        cases cond : (decide (u - str + (c : Nat) = 0) || mayD d j (.int (j + (u - str + (c : Nat))))) with
        | false =>
          have ebF : besF str (d, j) (one, u) (c + 1) = besF str (d, j) (one, u) c := by
            rw [besF_more, if_neg (by show ¬ (decide (u - str + (c : Nat) = 0) || mayD d j (.int (j + (u - str + (c : Nat))))) = true; rw [cond]; exact Bool.false_ne_true), List.append_nil]
          rw [Bool.or_eq_false_iff, decide_eq_false_iff_not] at cond
          refine ⟨_, rfl, rfl, _, rfl, ?_⟩
          refine ite2 (fun c1 => absurd (by simpa using c1) cond.1) (fun _ => ?_)
          refine ⟨_, rfl, h, _, _, _, rfl, rfl, .inl (hh.map fun o e => keepH4 (s4 _ _ e)), rfl, _, rfl, b, _, _, _, rfl, rfl, .inl (hB.map fun o e => keepH4 (s4 _ _ e)), atV hx, _, rfl, _, rfl, t, _, _, _, rfl, rfl, SqT.of ht5, atInt hj, _, rfl, _, rfl, t, _, _, _, rfl, rfl, SqT.of ht5, atInt hj, _, rfl, _, _, rfl, rfl, x, d, j, j + (u - str + (c : Nat)), rfl, (td.same s4).same s5, dg, _, rfl, ?_⟩
          rw [cond.2]
          refine iteF ⟨cs, _, rfl, s5, hM5, ?_⟩
          rw [ebF]
          exact pr5
        | true =>
          refine ⟨_, rfl, rfl, _, rfl, ?_⟩
          refine ite2 (fun c1 => ?_) (fun c1 => ?_)
          · refine iteT ⟨_, rfl, .inl ⟨rfl, _, SqL.of hM5⟩, _, rfl, _, rfl, _, rfl, t, _, _, _, rfl, rfl, SqT.of ht5, atInt hj, _, rfl, _, _, rfl, rfl, by show 1 ≤ sizeLine; decide, fun U nU => ?_⟩
            have sU := sameNew nU (.tup [.int (j + (u - str + (c : Nat)))])
            have hU : upd H5 U (.tup [.int (j + (u - str + (c : Nat)))]) U = some (.tup [.int (j + (u - str + (c : Nat)))]) := upd_same
            generalize upd H5 U (.tup [.int (j + (u - str + (c : Nat)))]) = H6 at sU hU ⊢
            refine ⟨o, U, one.map V.int, _, rfl, rfl, sU _ _ (s5 _ _ ho4'), hU, by simp, by rw [List.length_map]; show _ + 1 ≤ sizeLine; omega, fun T H7 s7 hT => ?_⟩
            refine ⟨_, rfl, _, rfl, _, rfl, _, _, rfl, rfl, by show 2 ≤ sizeLine; decide, fun W nW => ?_⟩
            have s57 := sU.trans s7
            have sW := sameNew nW (.tup [.ref T, .int (u + absI (u - str + (c : Nat)))])
            have hW : upd H7 W (.tup [.ref T, .int (u + absI (u - str + (c : Nat)))]) W = some (.tup [.ref T, .int (u + absI (u - str + (c : Nat)))]) := upd_same
            have hM8 := sW _ _ (s57 _ _ hM5)
            have hT8 := sW _ _ hT
            have pr8 := lot_same (s57.trans sW) pr5
            have s8 := s5.trans (s57.trans sW)
            refine ⟨M, _, _, rfl, rfl, hM8, small5000 (by rw [List.length_map]; omega), cs ++ [W], _, rfl, ?_, by rw [upd_same, List.map_append]; rfl, ?_⟩
            · intro b o e
              rw [upd_ne (ne_of_none e nM4)]
              exact s8 _ _ e
            · rw [besF_more, if_pos cond, ← List.append_assoc]
              refine lot_upd (paired_snoc pr8 ⟨T, hW, ?_⟩) hM8
              show _ = some (HO.tup ((one ++ [j + (u - str + (c : Nat))]).map V.int))
              exact hT8.trans (by rw [List.map_append]; rfl)
          · have c1' : ¬ (u - str + (c : Nat) = 0) := by simpa using c1
            have cm : mayD d j (.int (j + (u - str + (c : Nat)))) = true := by
              rw [decide_eq_false c1', Bool.false_or] at cond
              exact cond
            refine ⟨_, rfl, h, _, _, _, rfl, rfl, .inl (hh.map fun o e => keepH4 (s4 _ _ e)), rfl, _, rfl, b, _, _, _, rfl, rfl, .inl (hB.map fun o e => keepH4 (s4 _ _ e)), atV hx, _, rfl, _, rfl, t, _, _, _, rfl, rfl, SqT.of ht5, atInt hj, _, rfl, _, rfl, t, _, _, _, rfl, rfl, SqT.of ht5, atInt hj, _, rfl, _, _, rfl, rfl, x, d, j, j + (u - str + (c : Nat)), rfl, (td.same s4).same s5, dg, _, rfl, ?_⟩
            rw [cm]
            refine iteT ⟨_, rfl, .inl ⟨rfl, _, SqL.of hM5⟩, _, rfl, _, rfl, _, rfl, t, _, _, _, rfl, rfl, SqT.of ht5, atInt hj, _, rfl, _, _, rfl, rfl, by show 1 ≤ sizeLine; decide, fun U nU => ?_⟩
            have sU := sameNew nU (.tup [.int (j + (u - str + (c : Nat)))])
            have hU : upd H5 U (.tup [.int (j + (u - str + (c : Nat)))]) U = some (.tup [.int (j + (u - str + (c : Nat)))]) := upd_same
            generalize upd H5 U (.tup [.int (j + (u - str + (c : Nat)))]) = H6 at sU hU ⊢
            refine ⟨o, U, one.map V.int, _, rfl, rfl, sU _ _ (s5 _ _ ho4'), hU, by simp, by rw [List.length_map]; show _ + 1 ≤ sizeLine; omega, fun T H7 s7 hT => ?_⟩
            refine ⟨_, rfl, _, rfl, _, rfl, _, _, rfl, rfl, by show 2 ≤ sizeLine; decide, fun W nW => ?_⟩
            have s57 := sU.trans s7
            have sW := sameNew nW (.tup [.ref T, .int (u + absI (u - str + (c : Nat)))])
            have hW : upd H7 W (.tup [.ref T, .int (u + absI (u - str + (c : Nat)))]) W = some (.tup [.ref T, .int (u + absI (u - str + (c : Nat)))]) := upd_same
            have hM8 := sW _ _ (s57 _ _ hM5)
            have hT8 := sW _ _ hT
            have pr8 := lot_same (s57.trans sW) pr5
            have s8 := s5.trans (s57.trans sW)
            refine ⟨M, _, _, rfl, rfl, hM8, small5000 (by rw [List.length_map]; omega), cs ++ [W], _, rfl, ?_, by rw [upd_same, List.map_append]; rfl, ?_⟩
            · intro b o e
              rw [upd_ne (ne_of_none e nM4)]
              exact s8 _ _ e
            · rw [besF_more, if_pos cond, ← List.append_assoc]
              refine lot_upd (paired_snoc pr8 ⟨T, hW, ?_⟩) hM8
              show _ = some (HO.tup ((one ++ [j + (u - str + (c : Nat))]).map V.int))
              exact hT8.trans (by rw [List.map_append]; rfl)
      · rintro σ H5 ⟨cs, v8'', rfl, s5, hM5, pr5⟩
        rw [← ebS] at pr5
        exact ⟨cs, _, _, _, rfl, s5, hM5, pr5⟩
    · rintro σ H6 ⟨bs, v6', v7', v8', rfl, s6, hM6, hbs⟩
      rw [List.length_map, lq, List.take_length] at hbs
      exact ⟨_, rfl, M, bs, _, _, _, _, _, rfl, s4.trans s6, hM6, hbs⟩
  · rintro σ H4 ⟨l, qs, v4, v5, v6, v7, v8, rfl, s4, hl, hqs⟩
    rw [hN, ← hz, List.take_length] at hqs
    refine ⟨_, rfl, l, rfl, ⟨_, SqL.of hl⟩, fun D nD => lc_list (K := K) (a := l) (xs := qs.map V.ref) (fun i H5 => ∃ as : List Addr, H5 D = some (.lst (as.map V.ref)) ∧ Same H4 H5 ∧ PySem.Paired (NumAt H5) as (((besN str (ds.zip is)).take i).map (·.1)))
      ⟨[], upd_same, sameNew nD _, .nil⟩ (fun i H5 _ ⟨_, _, s5, _⟩ => SqL.of (s5 _ _ hl)) ?_ ?_⟩
    · rintro i y H5 hy ⟨as, e5, s5, n5⟩
      rw [List.getElem?_map] at hy
      obtain ⟨q, hq, rfl⟩ := Option.map_eq_some_iff.mp hy
      obtain ⟨⟨one, u⟩, he, o, hq4, ho4⟩ := pair_get hqs hq
      have il : i < qs.length := (List.getElem?_eq_some_iff.mp hq).1
      have la := PySem.Paired.length n5
      rw [List.length_map, List.length_take] at la
      have lq := PySem.Paired.length hqs
      have b3 := bes_len st0 st3 (ds.zip is)
      have p3 : 7 ^ (ds.zip is).length ≤ 343 := Nat.le_trans (Nat.pow_le_pow_right (by decide) (show _ ≤ 3 by omega)) (by decide)
      refine ⟨q, _, rfl, SqT.of (s5 _ _ hq4), rfl, _, _, rfl, _, _, rfl, rfl, rfl, ?_⟩
      refine ⟨_, rfl, _, e5, small5000 (by rw [List.length_map]; omega), as ++ [o], by rw [upd_same, List.map_append]; rfl, fun c o e => ?_, ?_⟩
      · rw [upd_ne (ne_of_none e nD)]
        exact s5 _ _ e
      · rw [take_more he, List.map_append]
        exact nums_upd (paired_snoc n5 (s5 _ _ ho4)) e5
    · rintro H5 ⟨as, e5, s5, n5⟩
      rw [List.length_map, PySem.Paired.length hqs, List.take_length] at n5
      exact k D as H5 (s4.trans s5) (s4.free nD) e5 n5
end
end Pk
end
section
set_option maxHeartbeats 2000000
/-! spread. -/
namespace Pk
open PySem PySem.Spec PyProof.Rows L2
abbrev sSpread : Stmt := topH 55
theorem trI (H : Hp) : ∀ is : List Int, TrAll H (is.map V.int) (is.map PyData.int)
  | [] => .nil
  | i :: is => .cons (.int i) (trI H is)
/-- closed at u: whatever is a step away, something found lies between, nearer -/
def ClosedN (ds rs : List PyData) (str : Int) (fs : List (List Int)) (u : List Int) : Prop := ∀ js, GoodN ds rs js → StepN ds str u js → 1 ≤ distN ds u js → ∃ us ∈ fs, BtwN ds u us js ∧ 1 ≤ distN ds u us
theorem ClosedN.more {ds rs : List PyData} {str : Int} {fs gs : List (List Int)} {u : List Int} (h : ClosedN ds rs str fs u) (s : ∀ x ∈ fs, x ∈ gs) : ClosedN ds rs str gs u := fun js g st d => let ⟨us, hu, r⟩ := h js g st d; ⟨us, s us hu, r⟩
def spSpread (Ps : List Addr) (CW : Addr) : Sp := fun vs H Q E => ∃ (h t : Addr) (ds rs : List PyData) (is : List Int) (str : Int), vs = [.ref h, .ref t, .int str] ∧ HouseAt H h ds rs ∧ H t = some (.tup (is.map V.int)) ∧ GoodN ds rs is ∧ 1 ≤ str ∧ str ≤ 3 ∧ Tabs Ps H ∧
  (∀ (fs : List (List Int)) (H' : Hp), fs.Nodup → (∀ js ∈ fs, Rch ds rs str is js) → 1000 < fs.length → GrS Ps H H' → E (.ref CW) none H') ∧
  ∀ (l : Addr) (as : List Addr) (fs : List (List Int)) (H' : Hp), GrS Ps H H' → H l = none → H' l = some (.lst (as.map V.ref)) → PySem.Paired (NumAt H') as fs → SrtO.Srtd lexL fs → fs.Nodup → (∀ js, js ∈ fs ↔ Rch ds rs str is js) → fs.length ≤ 1000 → Q (.ref l) H'
/-- what stands while found grows; g is being looked at -/
structure FndH (ds rs : List PyData) (H0 : Hp) (fd q : Addr) (str : Int) (is : List Int) (o : Option (List Int)) (fs gs : List (List Int)) (as : List Addr) (H : Hp) : Prop where
  sm : Same H0 H
  hf : H fd = some (.dT (knownT fs))
  hq : H q = some (.lst (as.map V.ref))
  pr : PySem.Paired (NumAt H) as gs
  nd : fs.Nodup
  ok : ∀ u ∈ fs, Rch ds rs str is u
  base : is ∈ fs
  sub : ∀ u ∈ gs, u ∈ fs
  cl : ∀ u ∈ fs, u ∈ gs ∨ o = some u ∨ ClosedN ds rs str fs u
/-- the state of the search; what is left of it gets less -/
def WndH (ds rs : List PyData) (H0 : Hp) (h t x st fd q : Addr) (str : Int) (is : List Int) (m : Nat) (σ : L2.St) (H : Hp) : Prop := ∃ (fs gs : List (List Int)) (as : List Addr) (v7 v8 : Option V), σ = [some (.ref h), some (.ref t), some (.int str), some (.ref x), some (.ref st), some (.ref fd), some (.ref q), v7, v8] ∧ m = 2 * (1000 - fs.length) + gs.length ∧ fs.length ≤ 1000 ∧ gs.length ≤ fs.length ∧ FndH ds rs H0 fd q str is none fs gs as H
section
variable {P : Program} {w : World} {K : PySem.W.Frag} {mg : Str → Option Value} {base : Heap} {Ps : List Addr}
abbrev nSpread : List Str := ["house", "standing", "strength", "layout", "start", "found", "ahead", "numbers", "then"]
theorem scSpread : FnScope nSpread ["house", "standing", "strength"] (defScope sSpread) := ⟨rfl, rfl, rfl, by decide +kernel, rfl, by decide +kernel, by decide +kernel⟩
theorem ok_spread {f g1 g2 g3 g4 g5 g6 g7 C CW : Addr} {fd d1 d2 d3 d4 d5 d6 d7 : FuncData} {tm tg : Tok} (F : Fun K "spread" "spread" sSpread f fd) (B : Blt mg) (R : RefTxt K mg "TooWide" CW) (cM : mg "MOST_TOLD" = some (.int 1000 tm)) (cG : mg "GREATEST_SPREAD" = some (.int 3 tg))
    (G1 : FnOk P w K mg base CX0 6 g1 d1 ["house"] (spCheckH Ps)) (b1 : Binds K d1 ["house"] []) (k1 : PySem.W.keepIn K (.ref g1) = true) (m1 : mg "check_house" = some (.ref g1))
    (G2 : FnOk P w K mg base CX0 6 g2 d2 ["house", "standing"] (spCheckS Ps)) (b2 : Binds K d2 ["house", "standing"] []) (k2 : PySem.W.keepIn K (.ref g2) = true) (m2 : mg "check_standing" = some (.ref g2))
    (G3 : FnOk P w K mg base CX0 1 g3 d3 ["thing", "low", "high"] spWhole) (b3 : Binds K d3 ["thing", "low", "high"] []) (k3 : PySem.W.keepIn K (.ref g3) = true) (m3 : mg "is_whole" = some (.ref g3))
    (T : LayTxt K mg C) (M : Mk K C g4) (G4 : FnOk P w K mg base CX0 2 g4 d4 ["self", "house"] (spInit C)) (b4 : Binds K d4 ["self", "house"] []) (G5 : FnOk P w K mg base CX0 1 g5 d5 ["self", "numbers"] (spByN C)) (b5 : Binds K d5 ["self", "numbers"] []) (m5 : Meth K C "by_names" g5)
    (G6 : FnOk P w K mg base CX0 1 g6 d6 ["self", "now"] (spNumsOf C)) (b6 : Binds K d6 ["self", "now"] []) (m6 : Meth K C "numbers_of" g6)
    (G7 : FnOk P w K mg base CX0 6 g7 d7 ["layout", "numbers", "strength"] (spNext C)) (b7 : Binds K d7 ["layout", "numbers", "strength"] []) (k7 : PySem.W.keepIn K (.ref g7) = true) (m7 : mg "next_standings" = some (.ref g7)) :
    FnOk P w K mg base (L2.CX P w) 7 f fd ["house", "standing", "strength"] (spSpread Ps CW) := by
  refine F.okX scSpread (fun vs H Q E h => ?_) (fun cdv A outer s H vs Q E hr h => ?_)
  · obtain ⟨h, t, ds, rs, is, str, rfl, _⟩ := h
    rfl
  obtain ⟨h, t, ds, rs, is, str, rfl, ha, ht, gd, st1, st3, tb, kE, kQ⟩ := h
  have hu := hu_of hr
  have hr1 : Room 1 _ := hr.mono (by decide)
  have hr3 : Room 3 _ := hr.mono (by decide)
  refine ⟨_, pss_cons (ps_expr (pe_call G1 hr rfl m1 k1 b1 .nil pass0 (pa_cons (pv 0) pa_nil))) <|
    pss_cons (ps_expr (pe_call G2 hr rfl m2 k2 b2 .nil pass0 (pa_cons (pv 0) (pa_cons (pv 1) pa_nil)))) <|
    pss_cons (ps_if (pt_not (pt_val (pe_call G3 hr1 rfl m3 k3 b3 .nil pass0 (pa_cons (pv 2) (pa_cons pe_int (pa_cons (pe_glob (v := .int 3) (by rfl) cG ⟨_, rfl⟩) pa_nil)))))) (pss_one ps_never) pss_nil) <|
    pss_cons (ps_set (i := 3) scSpread.nd rfl (.inl rfl) (pe_make M G4 hr3 rfl T.mgC b4 .nil pass0 (pa_cons (pv 0) pa_nil))) <|
    pss_cons (ps_set (i := 4) scSpread.nd rfl (.inl rfl) (pe_meth (pv 3) T.cl m6 G6 hr1 b6 .nil pass0 (pa_cons (pe_meth (pv 3) T.cl m5 G5 hr1 b5 .nil pass0 (pa_cons (pv 1) pa_nil)) pa_nil))) <|
    pss_cons (ps_set (i := 5) scSpread.nd rfl (.inl rfl) (pe_dispT hu (pv 4) pe_bl)) <|
    pss_cons (ps_set (i := 6) scSpread.nd rfl (.inl rfl) (pe_lst (pa_cons (pv 4) pa_nil))) <|
    pss_cons (ps_while (passes_of rfl) (pt_truth (pv 6) (fun _ => rfl))
      (pss_cons (ps_set (i := 7) scSpread.nd rfl (.inl rfl) (pe_bm0 PySem.F.plainAttrs_list PySem.F.slot_list_pop PySem.F.type_list_pop mt_pop (pv 6))) <|
       pss_cons (ps_for (passes_of rfl) rfl (pi_list (pe_call G7 hr rfl m7 k7 b7 .nil pass0 (pa_cons (pv 3) (pa_cons (pv 7) (pa_cons (pv 2) pa_nil))))) (pg_name (i := 8) scSpread.nd rfl (Or.inl rfl))
         (pss_one (ps_if (pt_cmp (pc_dnotin hu (pv 8) (pv 5))) (pss_cons (ps_dput hu (pv 5) (pv 8) pe_bl rfl) <| pss_one (ps_expr (pe_bm PySem.F.plainAttrs_list PySem.F.slot_list_append PySem.F.type_list_append mt_append (pv 6) (pa_cons (pv 8) pa_nil)))) pss_nil))) <|
       pss_one (ps_if (pt_cmpR op_gt (pe_callB call_len_dT (by rfl) B.len PySem.boot_len (pa_cons (pv 5) pa_nil)) (pe_glob (v := .int 1000) (by rfl) cM ⟨_, rfl⟩) (nomark _)) (pss_one (ps_raise rfl (takes_of rfl rfl rfl rfl) (pmk_own PySem.F.excBase_ValueError R.q R.gC R.kC (raises_own R.sB R.tC) rfl))) pss_nil))) <|
    pss_one (ps_ret (pe_callB cr_sortedTL (by rfl) B.sorted (by decide +kernel) (pa_cons (pe_callTy (call_list_dT rfl) (by rfl) B.list (by decide +kernel) (pa_cons (pv 5) pa_nil)) pa_nil))), ?_⟩
  have szl := sizeLine_eq
  have nd := ha.hg.nd
  refine ⟨_, rfl, h, ds, rs, rfl, ha, tb, fun H1 g1 => ?_⟩
  have ht1 := g1.at tb ht (by intro q z; cases z)
  refine ⟨_, rfl, _, rfl, h, .ref t, ds, rs, .tuple (is.map .int), rfl, ha.grs tb g1, .tup (.inl ht1) (trI _ is), g1.1, gd.stand ha.hg, fun H2 g2 => ?_⟩
  have g12 := g1.trans g2
  have ha2 := ha.grs tb g12
  have ht2 := g12.at tb ht (by intro q z; cases z)
  refine ⟨_, rfl, .int str, .int str, 1, 3, rfl, .int str, _, rfl, ?_⟩
  rw [wholeD_int, decide_eq_true st1, decide_eq_true st3]
  refine iteF ?_
  refine ⟨_, rfl, fun x dx nx ndx ne => ?_⟩
  have s0 : Same H2 (upd (upd H2 dx (.own x)) x (.ins C dx [])) := fun c o e => by
    rw [upd_ne (ne_of_none e nx), upd_ne (ne_of_none e ndx)]
    exact e
  refine ⟨x, h, dx, ds, rs, rfl, upd_same, ha2.tr.same s0, ha2.hg, fun nl dl rb sp H3 L kp => ⟨rfl, ?_⟩⟩
  have s1 : Same H2 H3 := fun c o e => kp c o (ne_of_none e nx) (s0 c o e)
  have ls : LS C H3 x nl dl rb sp ds rs := ⟨L, ha2.hg⟩
  obtain ⟨dx2, fs0, l1, l2, l3, l4, l5, l6, l7⟩ := ls.L.ob
  have ht3 := s1 _ _ ht2
  refine ⟨_, rfl, x, dx2, fs0, rfl, l1, l7, _, rfl, x, dx2, fs0, rfl, l1, l6, _, rfl, x, t, nl, ds.map nameOf, is, rfl, L.at, .inl ht3, by rw [List.length_map]; exact gd.len.symm, nd, fun p np => ?_⟩
  have s4 := sameNew np (.dK ((emN ds is).map kvOf))
  have hp : upd H3 p (.dK ((emN ds is).map kvOf)) p = some (.dK ((emN ds is).map kvOf)) := upd_same
  generalize upd H3 p (.dK (((ds.map nameOf).zip is).map kvOf)) = H4 at s4 hp ⊢
  refine ⟨x, nl, dl, rb, sp, p, ds, rs, emN ds is, rfl, (ls.same s4).L, ha2.hg, hp, emN_keys gd.len, fun st H5 s5 hst => ?_⟩
  have est : H5 st = some (.tup (is.map V.int)) := by
    rw [hst, show (ds.map fun d => lookE (emN ds is) (nameOf d)) = is from num_emN nd gd.len]
  have s25 := s1.trans (s4.trans s5)
  have g5 := g12.trans (GrS.same g12.1 s25)
  have ls5 : LS C H5 x nl dl rb sp ds rs := ls.same (s4.trans s5)
  intro fd0 nfd
  have sfd : st ≠ fd0 := fun z => by rw [z, nfd] at est; cases est
  refine ⟨_, rfl, upd_same, st, keyN is, rfl, by rw [upd_ne sfd, keyN_kV]; exact est, ?_⟩
  have s6 : Same H5 (upd (upd H5 fd0 (.dT [])) fd0 (.dT [(keyN is, .bl true)])) := fun c o e => by
    rw [upd_ne (ne_of_none e nfd), upd_ne (ne_of_none e nfd)]
    exact e
  have hf6 : upd (upd H5 fd0 (.dT [])) fd0 (.dT [(keyN is, .bl true)]) fd0 = some (.dT (knownT [is])) := upd_same
  generalize upd (upd H5 fd0 (.dT [])) fd0 (.dT [(keyN is, .bl true)]) = H6 at s6 hf6 ⊢
  refine ⟨_, rfl, by show 1 ≤ sizeLine; decide, fun q nq => ?_⟩
  have s7 := sameNew nq (.lst [.ref st])
  have hq7 : upd H6 q (.lst [.ref st]) q = some (.lst (([st] : List Addr).map V.ref)) := upd_same
  have nq5 : H5 q = none := s6.free nq
  generalize upd H6 q (.lst [.ref st]) = H7 at s7 hq7 ⊢
  refine ⟨WndH ds rs H5 h t x st fd0 q str is, ⟨_, [is], [is], [st], none, none, rfl, rfl, (show 1 ≤ 1000 by decide), Nat.le_refl _, ⟨s6.trans s7, s7 _ _ hf6, hq7, .cons (s7 _ _ (s6 _ _ est)) .nil, List.nodup_cons.mpr ⟨by simp, List.nodup_nil⟩, fun u hu => by rw [List.mem_singleton.mp hu]; exact .base, List.mem_singleton.mpr rfl, fun u hu => hu, fun u hu => .inl hu⟩⟩, ?_⟩
  rintro m σ H8 ⟨fs, gs, as, v7, v8, rfl, rfl, le8, lgf, F8⟩
  have la := PySem.Paired.length F8.pr
  refine ⟨_, rfl, _, .inl ⟨_, SqL.of F8.hq, rfl⟩, ?_⟩
  rcases List.eq_nil_or_concat gs with e0 | ⟨gs', g, e0⟩
  · subst e0
    have e1 : as = [] := List.eq_nil_of_length_eq_zero la
    subst e1
    have clo : ∀ u ∈ fs, ClosedN ds rs str fs u := fun u hu => by
      rcases F8.cl u hu with c | c | c
      · cases c
      · cases c
      · exact c
    refine iteF ⟨_, rfl, fd0, knownT fs, rfl, .inl F8.hf, fun l bs nl9 kb => ?_⟩
    have pk := keys_paired kb
    have lb := PySem.Paired.length pk
    have s9 := sameNew nl9 (.lst (bs.map V.ref))
    have hl9 : upd H8 l (.lst (bs.map V.ref)) l = some (.lst (bs.map V.ref)) := upd_same
    generalize upd H8 l (.lst (bs.map V.ref)) = H9 at s9 hl9 ⊢
    have pk9 : PySem.Paired (NumAt H9) bs fs := L2.Paired.mapP pk fun a z e => s9 _ _ e
    refine ⟨l, _, numH H9, rfl, SqL.of hl9, fun y hy => ?_, fun ys p9 hs hb np9 => ?_⟩
    · obtain ⟨a, rfl, ha9⟩ := numAt_mem pk9 y hy
      refine ⟨a, rfl, ha9, fun e => ?_⟩
      have hm : numH H9 (.ref a) ∈ fs := by
        rw [← numH_all pk9]
        exact List.mem_map.mpr ⟨_, hy, rfl⟩
      have q1 := ((F8.ok _ hm).good gd).len
      rw [e] at q1
      have := ha.hg.d1
      rw [List.length_nil] at q1
      omega
    · obtain ⟨as2, fs2, rfl, p2, hs2, pm⟩ := told_sorted pk9 hs hb
      have s10 := sameNew np9 (.lst (as2.map V.ref))
      refine kQ p9 as2 fs2 _ (g5.trans (GrS.same g5.1 (F8.sm.trans (s9.trans s10)))) ?_ upd_same (L2.Paired.mapP p2 fun a z e => s10 _ _ e) hs2 (pm.nodup_iff.mpr F8.nd) (fun js => ?_) (by rw [pm.length_eq]; exact le8)
      · cases e : H p9 with
        | none => rfl
        | some o =>
          exfalso
          obtain ⟨o', e'⟩ : ∃ o', H5 p9 = some o' := by
            by_cases hp9 : p9 ∈ Ps
            · obtain ⟨ps, h1, _⟩ := g5.1 p9 hp9
              exact ⟨_, h1⟩
            · exact ⟨_, g5.2 p9 o hp9 e⟩
          have := s9 _ _ (F8.sm _ _ e')
          rw [np9] at this
          cases this
      · rw [pm.mem_iff]
        exact ⟨F8.ok js, closed_rch nd (fun u hu => (F8.ok u hu).good gd) clo F8.base js⟩
  rw [List.concat_eq_append] at e0
  subst e0
  obtain ⟨as', a, e1, pr', ha8⟩ := paired_last F8.pr
  subst e1
  have tr : (!((as' ++ [a]).map V.ref).isEmpty) = true := by simp
  rw [tr]
  refine iteT ⟨fun σ' H' => ∃ m', m' < _ ∧ WndH ds rs H5 h t x st fd0 q str is m' σ' H', fun σ' H' h => h, ?_⟩
  refine ⟨_, rfl, .inl ⟨rfl, _, SqL.of F8.hq⟩, q, _, .ref a, rfl, rfl, F8.hq, by simp, ?_⟩
  have dl8 : ((as' ++ [a]).map V.ref).dropLast = as'.map V.ref := by simp
  rw [dl8]
  have hgm : g ∈ fs := F8.sub g (List.mem_append_right _ (List.mem_singleton.mpr rfl))
  have fq : fd0 ≠ q := ne_of F8.hf F8.hq (by intro z; cases z)
  have F9 : FndH ds rs H5 fd0 q str is (some g) fs gs' as' (upd H8 q (.lst (as'.map V.ref))) := by
    refine ⟨mutN F8.sm nq5, by rw [upd_ne fq]; exact F8.hf, upd_same, nums_upd pr' F8.hq, F8.nd, F8.ok, F8.base, fun u hu => F8.sub u (List.mem_append_left _ hu), fun u hu => ?_⟩
    rcases F8.cl u hu with c | c | c
    · rcases List.mem_append.mp c with c | c
      · exact .inl c
      · exact .inr (.inl (by rw [List.mem_singleton.mp c]))
    · cases c
    · exact .inr (.inr c)
  have ha9 : upd H8 q (.lst (as'.map V.ref)) a = some (.tup (g.map V.int)) := by
    rw [upd_ne (ne_of ha8 F8.hq (by intro z; cases z))]
    exact ha8
  generalize upd H8 q (.lst (as'.map V.ref)) = H9 at F9 ha9 ⊢
  have rg := F8.ok g hgm
  refine ⟨_, rfl, _, rfl, _, rfl, x, nl, dl, rb, sp, a, ds, rs, g, str, rfl, ls5.same F9.sm, ha9, rg.good gd, by omega, st3, fun l9 bs iss H10 s10 nl9 hl9 pr9 len9 ok9 co9 => ?_⟩
  have l12 := ha.hg.d2
  have lbs := PySem.Paired.length pr9
  refine ⟨l9, rfl, ⟨_, SqL.of hl9⟩, for_list (K := K) (a := l9) (xs := bs.map V.ref) (fun i σ H11 => ∃ (fs2 gs2 : List (List Int)) (as2 : List Addr) (v8 : Option V) (n : Nat), σ = [some (.ref h), some (.ref t), some (.int str), some (.ref x), some (.ref st), some (.ref fd0), some (.ref q), some (.ref a), v8] ∧ FndH ds rs H5 fd0 q str is (some g) fs2 gs2 as2 H11 ∧ H11 l9 = some (.lst (bs.map V.ref)) ∧ PySem.Paired (NumAt H11) bs iss ∧ (∀ us ∈ iss.take i, us ∈ fs2) ∧ n ≤ i ∧ fs2.length = fs.length + n ∧ gs2.length = gs'.length + n)
    ⟨fs, gs', as', v8, 0, rfl, ?_, hl9, pr9, fun _ h => absurd h (by simp), Nat.le_refl _, rfl, rfl⟩ (fun i σ H11 _ ⟨_, _, _, _, _, _, _, e, _⟩ => SqL.of e) ?_ ?_⟩
  · exact ⟨F9.sm.trans s10, s10 _ _ F9.hf, s10 _ _ F9.hq, nums_same s10 F9.pr, F9.nd, F9.ok, F9.base, F9.sub, F9.cl⟩
  · rintro i y σ H11 hy ⟨fs2, gs2, as2, v8', n, rfl, F11, hl11, pr11, tk11, hn, lf, lg⟩
    rw [List.getElem?_map] at hy
    obtain ⟨b, hb, rfl⟩ := Option.map_eq_some_iff.mp hy
    obtain ⟨us, hus, hbu⟩ := nums_get pr11 hb
    have il : i < bs.length := (List.getElem?_eq_some_iff.mp hb).1
    have lg2 := PySem.Paired.length F11.pr
    rw [List.length_append] at lgf
    have hbk : H11 b = some (.tup ((keyN us).map kV)) := by
      rw [keyN_kV]
      exact hbu
    obtain ⟨okg, oks⟩ := ok9 us (List.mem_of_getElem? hus)
    refine ⟨_, rfl, _, rfl, fd0, _, rfl, DGet.t F11.hf hbk, _, rfl, ?_⟩
    rw [known_val]
    by_cases c : us ∈ fs2
    · rw [if_pos c]
      refine iteF ⟨fs2, gs2, as2, _, n, rfl, F11, hl11, pr11, fun u hu => ?_, by omega, lf, lg⟩
      rw [take_more hus] at hu
      rcases List.mem_append.mp hu with hu | hu
      · exact tk11 u hu
      · rw [List.mem_singleton.mp hu]
        exact c
    · rw [if_neg c]
      refine iteT ⟨_, rfl, _, rfl, fd0, _, rfl, DPut.t F11.hf hbk (small5000 (by rw [known_len]; omega)), ?_⟩
      rw [known_put c]
      have qf : q ≠ fd0 := fun z => fq z.symm
      have lf9 : l9 ≠ fd0 := ne_of hl11 F11.hf (by intro z; cases z)
      have bf : ∀ {b' : Addr} {xs : List V}, H11 b' = some (.tup xs) → b' ≠ fd0 := fun e => ne_of e F11.hf (by intro z; cases z)
      have hq12 : upd H11 fd0 (.dT (knownT (fs2 ++ [us]))) q = some (.lst (as2.map V.ref)) := by
        rw [upd_ne qf]
        exact F11.hq
      have hf12 : upd H11 fd0 (.dT (knownT (fs2 ++ [us]))) fd0 = some (.dT (knownT (fs2 ++ [us]))) := upd_same
      have hl12 : upd H11 fd0 (.dT (knownT (fs2 ++ [us]))) l9 = some (.lst (bs.map V.ref)) := by
        rw [upd_ne lf9]
        exact hl11
      have nm12 : ∀ {b' : Addr} {js : List Int}, NumAt H11 b' js → NumAt (upd H11 fd0 (.dT (knownT (fs2 ++ [us])))) b' js := fun {b' js} e => by
        show upd H11 fd0 _ b' = _
        rw [upd_ne (bf e)]
        exact e
      have s12 : Same H5 (upd H11 fd0 (.dT (knownT (fs2 ++ [us])))) := mutN F11.sm nfd
      generalize upd H11 fd0 (.dT (knownT (fs2 ++ [us]))) = H12 at hq12 hf12 hl12 nm12 s12 ⊢
      have ql : l9 ≠ q := fun z => by
        have h1 := s10 _ _ F9.hq
        rw [← z] at h1
        rw [z] at nl9
        rw [F9.hq] at nl9
        cases nl9
      refine ⟨_, rfl, .inl ⟨rfl, _, SqL.of hq12⟩, _, rfl, q, _, _, rfl, rfl, hq12, small5000 (by rw [List.length_map]; omega), fs2 ++ [us], gs2 ++ [us], as2 ++ [b], _, n + 1, rfl, ⟨mutN s12 nq5, by rw [upd_ne fq]; exact hf12, by rw [upd_same, List.map_append]; rfl, nums_upd (paired_snoc (L2.Paired.mapP F11.pr fun a z e => nm12 e) (nm12 hbu)) hq12, nodup_snoc F11.nd c, fun u hu => ?_, List.mem_append_left _ F11.base, fun u hu => ?_, fun u hu => ?_⟩, by rw [upd_ne ql]; exact hl12, nums_upd (L2.Paired.mapP pr11 fun a z e => nm12 e) hq12, fun u hu => ?_, by omega, by rw [List.length_append, lf]; rfl, by rw [List.length_append, lg]; rfl⟩
      · rcases List.mem_append.mp hu with hu | hu
        · exact F11.ok u hu
        · rw [List.mem_singleton.mp hu]
          exact .step rg okg oks
      · rcases List.mem_append.mp hu with hu | hu
        · exact List.mem_append_left _ (F11.sub u hu)
        · exact List.mem_append_right _ hu
      · rcases List.mem_append.mp hu with hu | hu
        · rcases F11.cl u hu with c | c | c
          · exact .inl (List.mem_append_left _ c)
          · exact .inr (.inl c)
          · exact .inr (.inr (c.more fun x hx => List.mem_append_left _ hx))
        · exact .inl (List.mem_append_right _ hu)
      · rw [take_more hus] at hu
        rcases List.mem_append.mp hu with hu | hu
        · exact List.mem_append_left _ (tk11 u hu)
        · exact List.mem_append_right _ hu
  · rintro σ H11 ⟨fs2, gs2, as2, v8', n, rfl, F11, hl11, pr11, tk11, hn, lf, lg⟩
    rw [List.length_map, lbs, List.take_length] at tk11
    have clg : ClosedN ds rs str fs2 g := fun js gj sj dj => by
      obtain ⟨us, hu, r⟩ := co9 js gj sj dj
      exact ⟨us, tk11 us hu, r⟩
    refine ⟨_, rfl, fd0, _, rfl, F11.hf, _, _, rfl, rfl, _, rfl, ?_⟩
    rw [known_len]
    by_cases c : (1000 : Int) < (fs2.length : Nat)
    · rw [decide_eq_true c]
      exact iteT (kE fs2 H11 F11.nd F11.ok (by omega) (g5.trans (GrS.same g5.1 F11.sm)))
    · rw [decide_eq_false c]
      refine iteF ⟨_, ?_, fs2, gs2, as2, _, _, rfl, rfl, by omega, by rw [List.length_append] at lgf; omega, ⟨F11.sm, F11.hf, F11.hq, F11.pr, F11.nd, F11.ok, F11.base, F11.sub, fun u hu => ?_⟩⟩
      · rw [List.length_append]
        show _ < _ + (gs'.length + 1)
        omega
      · rcases F11.cl u hu with c | c | c
        · exact .inl c
        · rw [← Option.some.inj c]
          exact .inr (.inr clg)
        · exact .inr (.inr c)
end
end Pk
end
section
set_option maxHeartbeats 2000000
/-! The law's own: all standings near one. -/
namespace Pk
open PySem PySem.Spec PyProof.Rows L2
abbrev sLNear : Stmt := topH 78
theorem good_iff {ds rs : List PyData} {js : List Int} (hg : HouseG ds rs) : GoodN ds rs js ↔ InBox ds js ∧ allD ds rs (.tuple (js.map .int)) = true := by
  constructor
  · intro g
    exact ⟨(inBox_zip g.len hg.dials).mpr (g.spans hg), g.alls hg⟩
  · rintro ⟨h1, h2⟩
    have hl := h1.len
    refine good_of hg hl ((inBox_zip hl hg.dials).mp h1) fun r hr => ?_
    unfold allD at h2
    rw [atE_em, List.all_eq_true] at h2
    exact h2 r hr
theorem box_nums {ds rs : List PyData} {js : List Int} (hg : HouseG ds rs) (h : InBox ds js) : numsD ds (.tuple (js.map .int)) = true := by
  have hl := h.len
  have hs := (inBox_zip hl hg.dials).mp h
  show (decide ((js.map PyData.int).length = ds.length) && ((ds.zip (js.map PyData.int)).all fun p => numD p.1 p.2)) = true
  rw [Bool.and_eq_true, decide_eq_true_eq, List.length_map, List.all_eq_true, zip_int]
  refine ⟨hl, fun p hp => ?_⟩
  obtain ⟨q, hq, rfl⟩ := List.mem_map.mp hp
  exact span_numD (hs q hq)
def AllIn (ds rs : List PyData) (str : Int) (fs : List (List Int)) (u : List Int) : Prop := ∀ js, GoodN ds rs js → StepN ds str u js → js ∈ fs
structure FndL (ds rs : List PyData) (H0 : Hp) (fd q : Addr) (str : Int) (is : List Int) (o : Option (List Int)) (fs gs : List (List Int)) (as : List Addr) (H : Hp) : Prop where
  sm : Same H0 H
  hf : H fd = some (.dT (knownT fs))
  hq : H q = some (.lst (as.map V.ref))
  pr : PySem.Paired (NumAt H) as gs
  nd : fs.Nodup
  ok : ∀ u ∈ fs, Rch ds rs str is u
  base : is ∈ fs
  sub : ∀ u ∈ gs, u ∈ fs
  cl : ∀ u ∈ fs, u ∈ gs ∨ o = some u ∨ AllIn ds rs str fs u
def WndL (ds rs : List PyData) (H0 : Hp) (h t fd q : Addr) (str : Int) (is : List Int) (m : Nat) (σ : L2.St) (H : Hp) : Prop := ∃ (fs gs : List (List Int)) (as : List Addr) (v5 : Option V), σ = [some (.ref h), some (.ref t), some (.int str), some (.ref fd), some (.ref q), v5] ∧ m = 2 * ((boxN ds).length - fs.length) + gs.length ∧ gs.length ≤ fs.length ∧ FndL ds rs H0 fd q str is none fs gs as H
theorem FndL.len {ds rs : List PyData} {H0 : Hp} {fd q : Addr} {str : Int} {is : List Int} {o : Option (List Int)} {fs gs : List (List Int)} {as : List Addr} {H : Hp} (hg : HouseG ds rs) (gd : GoodN ds rs is) (F : FndL ds rs H0 fd q str is o fs gs as H) : fs.length ≤ (boxN ds).length := nodup_le F.nd fun u hu => ((F.ok u hu).good gd).box hg
def spLNear : Sp := fun vs H Q _ => ∃ (h t : Addr) (ds rs : List PyData) (is : List Int) (str : Int), vs = [.ref h, .ref t, .int str] ∧ HouseAt H h ds rs ∧ H t = some (.tup (is.map V.int)) ∧ GoodN ds rs is ∧ 1 ≤ str ∧ str ≤ 3 ∧ ds.length ≤ 3 ∧ (boxN ds).length ≤ 2000 ∧
  ∀ (l : Addr) (as : List Addr) (fs : List (List Int)) (H' : Hp), Same H H' → H' l = some (.lst (as.map V.ref)) → PySem.Paired (NumAt H') as fs → SrtO.Srtd lexL fs → fs.Nodup → (∀ js, js ∈ fs ↔ Rch ds rs str is js) → Q (.ref l) H'
section
variable {P : Program} {w : World} {K : PySem.W.Frag} {mg : Str → Option Value} {base : Heap}
abbrev nLNear : List Str := ["_law_house_here", "_law_standing", "_law_strength", "_law_known", "_law_left", "_law_one"]
theorem scLNear : FnScope nLNear ["_law_house_here", "_law_standing", "_law_strength"] (defScope sLNear) := ⟨rfl, rfl, rfl, by decide +kernel, rfl, by decide +kernel, by decide +kernel⟩
theorem ok_lnear {f g1 g2 : Addr} {fd d1 d2 : FuncData} (F : Fun K "_law_near" "_law_near" sLNear f fd) (B : Blt mg)
    (G1 : FnOk P w K mg base CX0 2 g1 d1 ["_law_house_here", "_law_here", "_law_places"] spLBes) (b1 : Binds K d1 ["_law_house_here", "_law_here", "_law_places"] []) (k1 : PySem.W.keepIn K (.ref g1) = true) (m1 : mg "_law_beside" = some (.ref g1))
    (G2 : FnOk P w K mg base CX0 3 g2 d2 ["_law_house_here", "_law_numbers"] spLStands) (b2 : Binds K d2 ["_law_house_here", "_law_numbers"] []) (k2 : PySem.W.keepIn K (.ref g2) = true) (m2 : mg "_law_stands" = some (.ref g2)) :
    FnOk P w K mg base CX0 4 f fd ["_law_house_here", "_law_standing", "_law_strength"] spLNear := by
  refine F.ok scLNear (fun vs H Q E h => ?_) (fun cdv A outer s H vs Q E hr h => ?_)
  · obtain ⟨h, t, ds, rs, is, str, rfl, _⟩ := h
    rfl
  obtain ⟨h, t, ds, rs, is, str, rfl, ha, ht, gd, st1, st3, d3, bx, kQ⟩ := h
  have hu := hu_of hr
  have hu0 := hr.units0
  have hr2 : Room 2 _ := hr.mono (by decide)
  have hr3 : Room 3 _ := hr.mono (by decide)
  refine ⟨_, pss_cons (ps_par (i := 3) (j := 4) (by rfl) scLNear.nd rfl rfl (by decide) rfl rfl (pa_cons (pe_dispT hu (pv 1) pe_bl) (pa_cons (pe_lst (pa_cons (pv 1) pa_nil)) pa_nil)) (by rfl)) <|
    pss_cons (ps_while PassesOwn.never (pt_cmpR (op_neNil hu0) (pv 4) (pe_lst pa_nil) (nomark _))
      (pss_one (ps_for PassesOwn.never rfl (pi_list (pe_call G1 hr2 rfl m1 k1 b1 .nil pass0 (pa_cons (pv 0) (pa_cons (pe_bm0 PySem.F.plainAttrs_list PySem.F.slot_list_pop PySem.F.type_list_pop mt_pop (pv 4)) (pa_cons (pv 2) pa_nil))))) (pg_name (i := 5) scLNear.nd rfl (Or.inl rfl))
         (pss_one (ps_if (PW.pt (pw_and (pt_cmp (pc_dnotin hu (pv 5) (pv 3))) (pw_and1 (pt_val (pe_call G2 hr3 rfl m2 k2 b2 .nil pass0 (pa_cons (pv 0) (pa_cons (pv 5) pa_nil))))))) (pss_cons (ps_dput hu (pv 3) (pv 5) pe_bl rfl) <| pss_one (ps_expr (pe_bm PySem.F.plainAttrs_list PySem.F.slot_list_append PySem.F.type_list_append mt_append (pv 4) (pa_cons (pv 5) pa_nil)))) pss_nil))))) <|
    pss_one (ps_ret (pe_callB cr_sortedTL (by rfl) B.sorted (by decide +kernel) (pa_cons (pe_callTy (call_list_dT rfl) (by rfl) B.list (by decide +kernel) (pa_cons (pv 3) pa_nil)) pa_nil))), ?_⟩
  have szl := sizeLine_eq
  have nd := ha.hg.nd
  intro fd0 nfd
  have sfd : t ≠ fd0 := fun z => by rw [z, nfd] at ht; cases ht
  refine ⟨_, rfl, upd_same, t, keyN is, rfl, by rw [upd_ne sfd, keyN_kV]; exact ht, ?_⟩
  have s6 : Same H (upd (upd H fd0 (.dT [])) fd0 (.dT [(keyN is, .bl true)])) := fun c o e => by
    rw [upd_ne (ne_of_none e nfd), upd_ne (ne_of_none e nfd)]
    exact e
  have hf6 : upd (upd H fd0 (.dT [])) fd0 (.dT [(keyN is, .bl true)]) fd0 = some (.dT (knownT [is])) := upd_same
  generalize upd (upd H fd0 (.dT [])) fd0 (.dT [(keyN is, .bl true)]) = H6 at s6 hf6 ⊢
  refine ⟨_, rfl, by show 1 ≤ sizeLine; decide, fun q nq => ?_⟩
  have s7 := sameNew nq (.lst [.ref t])
  have hq7 : upd H6 q (.lst [.ref t]) q = some (.lst (([t] : List Addr).map V.ref)) := upd_same
  have nq5 : H q = none := s6.free nq
  generalize upd H6 q (.lst [.ref t]) = H7 at s7 hq7 ⊢
  refine ⟨_, _, rfl, ?_⟩
  have s8 := s6.trans s7
  refine ⟨WndL ds rs H h t fd0 q str is, ⟨_, [is], [is], [t], none, rfl, rfl, Nat.le_refl _, ⟨s8, s7 _ _ hf6, hq7, .cons (s8 _ _ ht) .nil, List.nodup_cons.mpr ⟨by simp, List.nodup_nil⟩, fun u hu => by rw [List.mem_singleton.mp hu]; exact .base, List.mem_singleton.mpr rfl, fun u hu => hu, fun u hu => .inl hu⟩⟩, ?_⟩
  rintro m σ H8 ⟨fs, gs, as, v5, rfl, rfl, lgf, F8⟩
  have la := PySem.Paired.length F8.pr
  have le8 := F8.len ha.hg gd
  refine ⟨_, rfl, by show 0 ≤ sizeLine; decide, fun N nN => ⟨q, N, _, rfl, rfl, SqL.of (sameNew nN _ _ _ F8.hq), SqL.of upd_same, ?_⟩⟩
  have sN := sameNew nN (.lst [])
  have F8 : FndL ds rs H fd0 q str is none fs gs as (upd H8 N (.lst [])) := ⟨F8.sm.trans sN, sN _ _ F8.hf, sN _ _ F8.hq, nums_same sN F8.pr, F8.nd, F8.ok, F8.base, F8.sub, F8.cl⟩
  generalize upd H8 N (.lst []) = H8 at F8 ⊢
  rcases List.eq_nil_or_concat gs with e0 | ⟨gs', g, e0⟩
  · subst e0
    have e1 : as = [] := List.eq_nil_of_length_eq_zero la
    subst e1
    have clo : ∀ u ∈ fs, ∀ js, GoodN ds rs js → StepN ds str u js → js ∈ fs := fun u hu => by
      rcases F8.cl u hu with c | c | c
      · cases c
      · cases c
      · exact c
    refine ⟨_, rfl, iteF ⟨_, rfl, fd0, knownT fs, rfl, .inl F8.hf, fun l bs nl9 kb => ?_⟩⟩
    have pk := keys_paired kb
    have lb := PySem.Paired.length pk
    have s9 := sameNew nl9 (.lst (bs.map V.ref))
    have hl9 : upd H8 l (.lst (bs.map V.ref)) l = some (.lst (bs.map V.ref)) := upd_same
    generalize upd H8 l (.lst (bs.map V.ref)) = H9 at s9 hl9 ⊢
    have pk9 : PySem.Paired (NumAt H9) bs fs := L2.Paired.mapP pk fun a z e => s9 _ _ e
    refine ⟨l, _, numH H9, rfl, SqL.of hl9, fun y hy => ?_, fun ys p9 hs hb np9 => ?_⟩
    · obtain ⟨a, rfl, ha9⟩ := numAt_mem pk9 y hy
      refine ⟨a, rfl, ha9, fun e => ?_⟩
      have hm : numH H9 (.ref a) ∈ fs := by
        rw [← numH_all pk9]
        exact List.mem_map.mpr ⟨_, hy, rfl⟩
      have q1 := ((F8.ok _ hm).good gd).len
      rw [e] at q1
      have := ha.hg.d1
      rw [List.length_nil] at q1
      omega
    · obtain ⟨as2, fs2, rfl, p2, hs2, pm⟩ := told_sorted pk9 hs hb
      have s10 := sameNew np9 (.lst (as2.map V.ref))
      refine kQ p9 as2 fs2 _ (F8.sm.trans (s9.trans s10)) upd_same (L2.Paired.mapP p2 fun a z e => s10 _ _ e) hs2 (pm.nodup_iff.mpr F8.nd) (fun js => ?_)
      rw [pm.mem_iff]
      exact ⟨F8.ok js, closed_rch2 clo F8.base js⟩
  rw [List.concat_eq_append] at e0
  subst e0
  obtain ⟨as', a, e1, pr', ha8⟩ := paired_last F8.pr
  subst e1
  have tr : (!((as' ++ [a]).map V.ref).isEmpty) = true := by simp
  rw [tr]
  refine ⟨_, rfl, iteT ⟨fun σ' H' => ∃ m', m' < _ ∧ WndL ds rs H h t fd0 q str is m' σ' H', fun σ' H' h => h, ?_⟩⟩
  refine ⟨_, rfl, _, rfl, .inl ⟨rfl, _, SqL.of F8.hq⟩, q, _, .ref a, rfl, rfl, F8.hq, by simp, ?_⟩
  have dl8 : ((as' ++ [a]).map V.ref).dropLast = as'.map V.ref := by simp
  rw [dl8]
  have hgm : g ∈ fs := F8.sub g (List.mem_append_right _ (List.mem_singleton.mpr rfl))
  have fq : fd0 ≠ q := ne_of F8.hf F8.hq (by intro z; cases z)
  have F9 : FndL ds rs H fd0 q str is (some g) fs gs' as' (upd H8 q (.lst (as'.map V.ref))) := by
    refine ⟨mutN F8.sm nq5, by rw [upd_ne fq]; exact F8.hf, upd_same, nums_upd pr' F8.hq, F8.nd, F8.ok, F8.base, fun u hu => F8.sub u (List.mem_append_left _ hu), fun u hu => ?_⟩
    rcases F8.cl u hu with c | c | c
    · rcases List.mem_append.mp c with c | c
      · exact .inl c
      · exact .inr (.inl (by rw [List.mem_singleton.mp c]))
    · cases c
    · exact .inr (.inr c)
  have ha9 : upd H8 q (.lst (as'.map V.ref)) a = some (.tup (g.map V.int)) := by
    rw [upd_ne (ne_of ha8 F8.hq (by intro z; cases z))]
    exact ha8
  generalize upd H8 q (.lst (as'.map V.ref)) = H9 at F9 ha9 ⊢
  have rg := F8.ok g hgm
  have gg := rg.good gd
  refine ⟨_, rfl, h, a, ds, rs, g, str, rfl, ⟨ha.tr.same F9.sm, ha.hg⟩, ha9, gg.len, by omega, st3, d3, fun l9 bs H10 s10 nl9 hl9 pr9 => ?_⟩
  have nlq : l9 ≠ q := fun z => by
    rw [z, F9.hq] at nl9
    cases nl9
  have ok9 : ∀ js ∈ (besN str (ds.zip g)).map (·.1), InBox ds js ∧ StepN ds str g js := fun js hj => (mem_beside ha.hg gg (by omega)).mp hj
  have co9 : ∀ js, GoodN ds rs js → StepN ds str g js → js ∈ (besN str (ds.zip g)).map (·.1) := fun js gj sj => (mem_beside ha.hg gg (by omega)).mpr ⟨((good_iff ha.hg).mp gj).1, sj⟩
  generalize (besN str (ds.zip g)).map (·.1) = iss at pr9 ok9 co9
  have lbs := PySem.Paired.length pr9
  refine ⟨l9, rfl, ⟨_, SqL.of hl9⟩, for_list (K := K) (a := l9) (xs := bs.map V.ref) (fun i σ H11 => ∃ (fs2 gs2 : List (List Int)) (as2 : List Addr) (v5 : Option V) (n : Nat), σ = [some (.ref h), some (.ref t), some (.int str), some (.ref fd0), some (.ref q), v5] ∧ FndL ds rs H fd0 q str is (some g) fs2 gs2 as2 H11 ∧ H11 l9 = some (.lst (bs.map V.ref)) ∧ PySem.Paired (NumAt H11) bs iss ∧ (∀ us ∈ iss.take i, GoodN ds rs us → us ∈ fs2) ∧ n ≤ i ∧ fs2.length = fs.length + n ∧ gs2.length = gs'.length + n)
    ⟨fs, gs', as', v5, 0, rfl, ?_, hl9, pr9, fun _ h => absurd h (by simp), Nat.le_refl _, rfl, rfl⟩ (fun i σ H11 _ ⟨_, _, _, _, _, _, _, e, _⟩ => SqL.of e) ?_ ?_⟩
  · exact ⟨F9.sm.trans s10, s10 _ _ F9.hf, s10 _ _ F9.hq, nums_same s10 F9.pr, F9.nd, F9.ok, F9.base, F9.sub, F9.cl⟩
  · rintro i y σ H11 hy ⟨fs2, gs2, as2, v5', n, rfl, F11, hl11, pr11, tk11, hn, lf, lg⟩
    rw [List.getElem?_map] at hy
    obtain ⟨b, hb, rfl⟩ := Option.map_eq_some_iff.mp hy
    obtain ⟨us, hus, hbu⟩ := nums_get pr11 hb
    have il : i < bs.length := (List.getElem?_eq_some_iff.mp hb).1
    have lg2 := PySem.Paired.length F11.pr
    have l11 := F11.len ha.hg gd
    rw [List.length_append] at lgf
    have hbk : H11 b = some (.tup ((keyN us).map kV)) := by
      rw [keyN_kV]
      exact hbu
    obtain ⟨okb, oks⟩ := ok9 us (List.mem_of_getElem? hus)
    have skip : us ∈ fs2 ∨ ¬ GoodN ds rs us → ∀ u ∈ iss.take (i + 1), GoodN ds rs u → u ∈ fs2 := fun d u hu gu => by
      rw [take_more hus] at hu
      rcases List.mem_append.mp hu with hu | hu
      · exact tk11 u hu gu
      · rw [List.mem_singleton.mp hu] at gu ⊢
        rcases d with d | d
        · exact d
        · exact absurd gu d
    refine ⟨_, rfl, _, rfl, fd0, _, rfl, DGet.t F11.hf hbk, _, rfl, ?_⟩
    rw [known_val]
    by_cases c : us ∈ fs2
    · rw [if_pos c]
      exact iteF ⟨fs2, gs2, as2, _, n, rfl, F11, hl11, pr11, skip (.inl c), by omega, lf, lg⟩
    rw [if_neg c]
    refine iteT ⟨_, rfl, _, rfl, h, .ref b, ds, rs, .tuple (us.map .int), rfl, ⟨ha.tr.same F11.sm, ha.hg⟩, .tup (.inl hbu) (trI _ us), box_nums ha.hg okb, fun H12 s12 => ⟨_, rfl, ?_⟩⟩
    have F12 : FndL ds rs H fd0 q str is (some g) fs2 gs2 as2 H12 := ⟨F11.sm.trans s12, s12 _ _ F11.hf, s12 _ _ F11.hq, nums_same s12 F11.pr, F11.nd, F11.ok, F11.base, F11.sub, F11.cl⟩
    have hl12 := s12 _ _ hl11
    have pr12 := nums_same s12 pr11
    have hbk12 := s12 _ _ hbk
    have hbu12 : NumAt H12 b us := s12 _ _ hbu
    cases c2 : allD ds rs (.tuple (us.map .int)) with
    | false => exact iteF ⟨fs2, gs2, as2, _, n, rfl, F12, hl12, pr12, skip (.inr fun gu => by rw [gu.alls ha.hg] at c2; cases c2), by omega, lf, lg⟩
    | true =>
      have okg : GoodN ds rs us := (good_iff ha.hg).mpr ⟨okb, c2⟩
      refine iteT ⟨_, rfl, _, rfl, fd0, _, rfl, DPut.t F12.hf hbk12 (small5000 (by rw [known_len]; omega)), ?_⟩
      rw [known_put c]
      have qf : q ≠ fd0 := fun z => fq z.symm
      have lf9 : l9 ≠ fd0 := ne_of hl12 F12.hf (by intro z; cases z)
      have bf : ∀ {b' : Addr} {xs : List V}, H12 b' = some (.tup xs) → b' ≠ fd0 := fun e => ne_of e F12.hf (by intro z; cases z)
      have hq13 : upd H12 fd0 (.dT (knownT (fs2 ++ [us]))) q = some (.lst (as2.map V.ref)) := by
        rw [upd_ne qf]
        exact F12.hq
      have hf13 : upd H12 fd0 (.dT (knownT (fs2 ++ [us]))) fd0 = some (.dT (knownT (fs2 ++ [us]))) := upd_same
      have hl13 : upd H12 fd0 (.dT (knownT (fs2 ++ [us]))) l9 = some (.lst (bs.map V.ref)) := by
        rw [upd_ne lf9]
        exact hl12
      have nm13 : ∀ {b' : Addr} {js : List Int}, NumAt H12 b' js → NumAt (upd H12 fd0 (.dT (knownT (fs2 ++ [us])))) b' js := fun {b' js} e => by
        show upd H12 fd0 _ b' = _
        rw [upd_ne (bf e)]
        exact e
      have s13 : Same H (upd H12 fd0 (.dT (knownT (fs2 ++ [us])))) := mutN F12.sm nfd
      generalize upd H12 fd0 (.dT (knownT (fs2 ++ [us]))) = H13 at hq13 hf13 hl13 nm13 s13 ⊢
      refine ⟨_, rfl, .inl ⟨rfl, _, SqL.of hq13⟩, _, rfl, q, _, _, rfl, rfl, hq13, small5000 (by rw [List.length_map]; omega), fs2 ++ [us], gs2 ++ [us], as2 ++ [b], _, n + 1, rfl, ⟨mutN s13 nq5, by rw [upd_ne fq]; exact hf13, by rw [upd_same, List.map_append]; rfl, nums_upd (paired_snoc (L2.Paired.mapP F12.pr fun a z e => nm13 e) (nm13 hbu12)) hq13, nodup_snoc F12.nd c, fun u hu => ?_, List.mem_append_left _ F12.base, fun u hu => ?_, fun u hu => ?_⟩, by rw [upd_ne nlq]; exact hl13, nums_upd (L2.Paired.mapP pr12 fun a z e => nm13 e) hq13, fun u hu gu => ?_, by omega, by rw [List.length_append, lf]; rfl, by rw [List.length_append, lg]; rfl⟩
      · rcases List.mem_append.mp hu with hu | hu
        · exact F12.ok u hu
        · rw [List.mem_singleton.mp hu]
          exact .step rg okg oks
      · rcases List.mem_append.mp hu with hu | hu
        · exact List.mem_append_left _ (F12.sub u hu)
        · exact List.mem_append_right _ hu
      · rcases List.mem_append.mp hu with hu | hu
        · rcases F12.cl u hu with c | c | c
          · exact .inl (List.mem_append_left _ c)
          · exact .inr (.inl c)
          · exact .inr (.inr fun js gj sj => List.mem_append_left _ (c js gj sj))
        · exact .inl (List.mem_append_right _ hu)
      · rw [take_more hus] at hu
        rcases List.mem_append.mp hu with hu | hu
        · exact List.mem_append_left _ (tk11 u hu gu)
        · exact List.mem_append_right _ hu
  · rintro σ H11 ⟨fs2, gs2, as2, v5', n, rfl, F11, hl11, pr11, tk11, hn, lf, lg⟩
    rw [List.length_map, lbs, List.take_length] at tk11
    have l11 := F11.len ha.hg gd
    rw [List.length_append] at lgf
    refine ⟨_, ?_, fs2, gs2, as2, _, rfl, rfl, (show gs2.length ≤ fs2.length from by have : [g].length = 1 := rfl; omega), ⟨F11.sm, F11.hf, F11.hq, F11.pr, F11.nd, F11.ok, F11.base, F11.sub, fun u hu => ?_⟩⟩
    · rw [List.length_append]
      show _ < _ + (gs'.length + 1)
      omega
    · rcases F11.cl u hu with c | c | c
      · exact .inl c
      · rw [← Option.some.inj c]
        exact .inr (.inr fun js gj sj => tk11 js (co9 js gj sj) gj)
      · exact .inr (.inr c)
end
end Pk
end
section
set_option maxHeartbeats 1000000
/-! The law's own: can. -/
namespace Pk
open PySem PySem.Spec PyProof.Rows L2
abbrev sLCan : Stmt := topH 76
abbrev Row3 : Type := (PyData × Int) × Int
def rows3 (ds : List PyData) (is js : List Int) : List Row3 := (ds.zip is).zip js
def mayR (t : Row3) : Bool := mayD t.1.1 t.1.2 (.int t.2)
def turnR (t : Row3) : Bool := !decide (t.1.2 = t.2)
def canB (ds : List PyData) (is js : List Int) : Bool := ((rows3 ds is js).filter turnR).all mayR
def RowAt (H H' : Hp) (r : Addr) (t : Row3) : Prop := ∃ x, H' r = some (.tup [x, .int t.1.2, .int t.2]) ∧ Tr H x t.1.1 ∧ DialG t.1.1
def spLCan : Sp := fun vs H Q _ => ∃ (h a b : Addr) (ds rs : List PyData) (is js : List Int), vs = [.ref h, .ref a, .ref b] ∧ HouseAt H h ds rs ∧ H a = some (.tup (is.map V.int)) ∧ H b = some (.tup (js.map V.int)) ∧ is.length = ds.length ∧ js.length = ds.length ∧
  ∀ (H' : Hp), Same H H' → Q (.bl (canB ds is js)) H'
section
variable {P : Program} {w : World} {K : PySem.W.Frag} {mg : Str → Option Value} {base : Heap}
abbrev nLCan : List Str := ["_law_house_here", "_law_here", "_law_there", "_law_rows", "_law_dial_here", "_law_one", "_law_other"]
theorem scLCan : FnScope nLCan ["_law_house_here", "_law_here", "_law_there"] (defScope sLCan) := ⟨rfl, rfl, rfl, by decide +kernel, rfl, by decide +kernel, by decide +kernel⟩
theorem ok_lcan {f g1 : Addr} {fd d1 : FuncData} (F : Fun K "_law_can" "_law_can" sLCan f fd) (mz : mg "zip" = none)
    (G1 : FnOk P w K mg base CX0 1 g1 d1 ["_law_dial_here", "_law_one", "_law_other"] spLMay) (b1 : Binds K d1 ["_law_dial_here", "_law_one", "_law_other"] []) (k1 : PySem.W.keepIn K (.ref g1) = true) (m1 : mg "_law_may" = some (.ref g1)) :
    FnOk P w K mg base CX0 2 f fd ["_law_house_here", "_law_here", "_law_there"] spLCan := by
  refine F.ok scLCan (fun vs H Q E h => ?_) (fun cdv A outer s H vs Q E hr h => ?_)
  · obtain ⟨h, a, b, ds, rs, is, js, rfl, _⟩ := h
    rfl
  obtain ⟨h, a, b, ds, rs, is, js, rfl, hh, ha, hb, li, lj, k⟩ := h
  have hu0 := hr.units0
  have hr1 : Room 1 _ := hr.mono (by decide)
  refine ⟨_, pss_cons (ps_setLc (i := 3) (own := [("_law_dial_here", 4), ("_law_one", 5), ("_law_other", 6)]) (g := gTup K 3 (gCons (gName 4) (gCons (gName 5) (gCons (gName 6) gNil)))) (by rfl) scLCan.nd rfl rfl (sw_true rfl rfl rfl (by decide +kernel)) (pi_zip3 (by rfl) mz (pa_cons (pe_ix ix_tup (pv 0) pe_int (fun _ _ => rfl)) (pa_cons (pv 1) (pa_cons (pv 2) pa_nil)))) (blkOk_by (N := nLCan) (sc := defScope sLCan) (by decide +kernel)) (fun _ _ _ _ _ => pg_tup rfl (pgs_cons (pg_name (i := 4) scLCan.nd rfl (Or.inl rfl)) (pgs_cons (pg_name (i := 5) scLCan.nd rfl (Or.inl rfl)) (pgs_cons (pg_name (i := 6) scLCan.nd rfl (Or.inl rfl)) pgs_nil)))) (fun _ _ _ _ _ => pts_one (pt_cmpR op_ne (pv 5) (pv 6) (nomark _))) (fun _ _ _ _ _ => pe_tup (pa_cons (pv 4) (pa_cons (pv 5) (pa_cons (pv 6) pa_nil))))) <|
    pss_one (ps_ret (pe_cmpR (op_eqNil hu0) (pe_lc (own := [("_law_dial_here", 4), ("_law_one", 5), ("_law_other", 6)]) (g := gTup K 3 (gCons (gName 4) (gCons (gName 5) (gCons (gName 6) gNil)))) (by rfl) scLCan.nd (pi_list (pv 3)) (blkOk_by (N := nLCan) (sc := defScope sLCan) (by decide +kernel)) (fun _ _ _ _ _ => pg_tup rfl (pgs_cons (pg_name (i := 4) scLCan.nd rfl (Or.inl rfl)) (pgs_cons (pg_name (i := 5) scLCan.nd rfl (Or.inl rfl)) (pgs_cons (pg_name (i := 6) scLCan.nd rfl (Or.inl rfl)) pgs_nil)))) (fun _ _ _ _ _ => pts_one (pt_not (pt_val (pe_call G1 hr1 rfl m1 k1 b1 .nil pass0 (pa_cons (pv 4) (pa_cons (pv 5) (pa_cons (pv 6) pa_nil))))))) (fun _ _ _ _ _ => pv 4)) (pe_lst pa_nil) (nomark _))), ?_⟩
  have th := hh.tr
  cases th with
  | @tup _ hs _ hq al =>
  revert hq
  match hs, al with
  | [_, _], .cons (@Tr.tup _ l xs _ hA alA) (.cons tB .nil) =>
  intro hq
  have lA := alA.length
  have d2 := hh.hg.d2
  refine ⟨_, rfl, h, _, _, _, rfl, rfl, (.inl hq), rfl, _, rfl, _, rfl, l, a, b, xs, _, _, rfl, (.inl hA), SqT.of ha, SqT.of hb, fun D hD => lc_it (walk_zip3 (xs := xs) (ys := is.map V.int) (zs := js.map V.int) (by rw [List.length_map]; omega) (by rw [List.length_map]; omega)) (fun i H1 => ∃ rw : List Addr, H1 D = some (.lst (rw.map V.ref)) ∧ rw.length ≤ i ∧ Same H H1 ∧ PySem.Paired (RowAt H H1) rw (((rows3 ds is js).take i).filter turnR))
    ⟨[], upd_same, Nat.le_refl _, sameNew hD _, .nil⟩ (fun i H1 _ ⟨_, _, _, s1, _⟩ => ⟨(.inl (hA.map (s1 _))), SqT.of (s1 _ _ ha), SqT.of (s1 _ _ hb)⟩) ?_ ?_⟩
  · rintro i y H1 H2 hi ⟨rw_, e1, l1, s1, n1⟩ ⟨T', x1, x2, x3, rfl, nT, rfl, w1, w2, w3⟩
    have w1 : xs[i]? = some x1 := w1
    have w2 : (is.map V.int)[i]? = some x2 := w2
    have w3 : (js.map V.int)[i]? = some x3 := w3
    rw [List.getElem?_map] at w2 w3
    obtain ⟨u, hu, rfl⟩ := Option.map_eq_some_iff.mp w2
    obtain ⟨v, hv, rfl⟩ := Option.map_eq_some_iff.mp w3
    obtain ⟨d, hd, td⟩ := alA.get w1
    have il : i < xs.length := (List.getElem?_eq_some_iff.mp w1).1
    have hrow : (rows3 ds is js)[i]? = some ((d, u), v) := by
      unfold rows3
      rw [List.getElem?_zip_eq_some, List.getElem?_zip_eq_some]
      exact ⟨⟨hd, hu⟩, hv⟩
    have dg := hh.hg.dials d (List.mem_of_getElem? hd)
    have sT := sameNew nT (.tup [x1, V.int u, V.int v])
    have hT : upd H1 T' (.tup [x1, V.int u, V.int v]) T' = some (.tup [x1, V.int u, V.int v]) := upd_same
    generalize upd H1 T' (.tup [x1, V.int u, V.int v]) = H3 at sT hT ⊢
    have e3 := sT _ _ e1
    have n3 : PySem.Paired (RowAt H H3) rw_ (((rows3 ds is js).take i).filter turnR) := L2.Paired.mapP n1 fun r t ⟨x, z1, z2⟩ => ⟨x, sT _ _ z1, z2⟩
    refine ⟨T', _, rfl, SqT.of hT, rfl, _, _, rfl, _, _, rfl, _, _, rfl, rfl, rfl, ?_⟩
    refine ⟨_, rfl, _, rfl, rfl, _, rfl, ?_⟩
    rw [take_more hrow, List.filter_append]
    refine ite2 (fun c => ?_) (fun c => ?_)
    · have c' : ¬ u = v := by simpa using c
      rw [List.filter_cons_of_pos (p := turnR) (by show (!decide (u = v)) = true; rw [decide_eq_false c']; rfl)]
      refine ⟨_, rfl, _, rfl, _, rfl, by show 3 ≤ sizeLine; decide, fun U nU => ?_⟩
      have sU := sameNew nU (.tup [x1, V.int u, V.int v])
      have hU : upd H3 U (.tup [x1, V.int u, V.int v]) U = some (.tup [x1, V.int u, V.int v]) := upd_same
      generalize upd H3 U (.tup [x1, V.int u, V.int v]) = H4 at sU hU ⊢
      have e4 := sU _ _ e3
      have s4 := s1.trans (sT.trans sU)
      have fr : Same H (upd H4 D (.lst (rw_.map V.ref ++ [V.ref U]))) := fun c o e => by
        rw [upd_ne (ne_of_none e hD)]
        exact s4 _ _ e
      refine ⟨_, e4, small1000 (by rw [List.length_map]; omega), rw_ ++ [U], by rw [upd_same, List.map_append]; rfl, by rw [List.length_append]; show _ + 1 ≤ _; omega, fr, paired_snoc (L2.Paired.mapP n3 fun r t ⟨x, z1, z2⟩ => ⟨x, ?_, z2⟩) ⟨x1, ?_, td, dg⟩⟩
      · have z1' := sU _ _ z1
        rw [upd_ne (ne_of z1' e4 (by intro z; cases z))]
        exact z1'
      · rw [upd_ne (ne_of hU e4 (by intro z; cases z))]
        exact hU
    · have c' : u = v := by simpa using c
      rw [List.filter_cons_of_neg (p := turnR) (by show ¬ (!decide (u = v)) = true; rw [decide_eq_true c']; exact Bool.false_ne_true), List.filter_nil, List.append_nil]
      exact ⟨rw_, e3, by omega, s1.trans sT, n3⟩
  · rintro H1 ⟨rw_, e1, l1, s1, n1⟩
    have lz : (rows3 ds is js).length = xs.length := by
      unfold rows3
      rw [List.length_zip, List.length_zip]
      omega
    rw [← lz, List.take_length] at n1
    have eC : canB ds is js = ((rows3 ds is js).filter turnR).all mayR := rfl
    generalize (rows3 ds is js).filter turnR = R at n1 eC
    have lR := PySem.Paired.length n1
    refine ⟨_, rfl, D, rfl, ⟨_, SqL.of e1⟩, fun D2 hD2 => lc_list (K := K) (a := D) (xs := rw_.map V.ref) (fun i H2 => ∃ ys : List V, H2 D2 = some (.lst ys) ∧ ys.length ≤ i ∧ Same H1 H2 ∧ ys.isEmpty = (R.take i).all mayR)
      ⟨[], upd_same, Nat.le_refl _, sameNew hD2 _, rfl⟩ (fun i H2 _ ⟨_, _, _, s2, _⟩ => SqL.of (s2 _ _ e1)) ?_ ?_⟩
    · rintro i y H2 hy ⟨ys, e2, l2, s2, em⟩
      rw [List.getElem?_map] at hy
      obtain ⟨r, hr', rfl⟩ := Option.map_eq_some_iff.mp hy
      have il : i < rw_.length := (List.getElem?_eq_some_iff.mp hr').1
      obtain ⟨⟨⟨d, u⟩, v⟩, ht, x, z1, z2, z3⟩ := pair_get n1 hr'
      have et : (R.take (i + 1)).all mayR = ((R.take i).all mayR && mayR ((d, u), v)) := by
        rw [take_more ht, List.all_append]
        simp
      refine ⟨r, _, rfl, SqT.of (s2 _ _ z1), rfl, _, _, rfl, _, _, rfl, _, _, rfl, rfl, rfl, ?_⟩
      refine ⟨_, rfl, _, rfl, _, rfl, x, d, u, v, rfl, (z2.same s1).same s2, z3, _, rfl, ?_⟩
      rw [et]
      cases c : mayD d u (.int v) with
      | true =>
        rw [show mayR ((d, u), v) = true from c, Bool.and_true]
        exact iteF ⟨ys, e2, by omega, s2, em⟩
      | false =>
        rw [show mayR ((d, u), v) = false from c, Bool.and_false]
        refine iteT ⟨_, rfl, ys, e2, small1000 (by omega), ys ++ [x], upd_same, by rw [List.length_append]; show _ + 1 ≤ _; omega, fun c o e => ?_, by simp⟩
        rw [upd_ne (ne_of_none e hD2)]
        exact s2 _ _ e
    · rintro H2 ⟨ys, e2, l2, s2, em⟩
      rw [List.length_map, lR, List.take_length, ← eC] at em
      refine ⟨by show 0 ≤ sizeLine; decide, fun N nN => ?_⟩
      have sN := sameNew nN (.lst [])
      refine ⟨D2, N, ys, rfl, rfl, SqL.of (sN _ _ e2), SqL.of upd_same, ?_⟩
      rw [em]
      exact k _ (s1.trans (s2.trans sN))
end
end Pk
end
section
set_option maxHeartbeats 1000000
/-! The law's own: told. -/
namespace Pk
open PySem PySem.Spec PyProof.Rows L2
abbrev sLTold6 : Stmt := topH 79
/-- what the walk asks of the classes -/
structure ClsTxt6 (K : PySem.W.Frag) (mg : Str → Option Value) (CW CL CS CD : Addr) : Prop where
  mW : mg "TooWide" = some (.ref CW)
  mL : mg "TooLong" = some (.ref CL)
  mS : mg "TooStrong" = some (.ref CS)
  mD : mg "DialError" = some (.ref CD)
  mV : mg "ValueError" = none
  ex : ExcC K CW
  te : PySem.W.exmOne K (.ref CW) (.ref CD) = some true
  isW : PySem.W.kitOne K (.ref CW) (.ref CW) = some true
  is2 : PySem.W.kitAny K (.ref CW) [.ref CL, .ref CS] = some false
  isV : PySem.W.kitOne K (.ref CW) (.type "ValueError") = some true
def spLTold (Ps : List Addr) : Sp := fun vs H Q _ => ∃ (h t : Addr) (ds rs : List PyData) (is : List Int) (str : Int), vs = [.ref h, .ref t, .int str] ∧ HouseAt H h ds rs ∧ H t = some (.tup (is.map V.int)) ∧ GoodN ds rs is ∧ 1 ≤ str ∧ str ≤ 3 ∧ Tabs Ps H ∧
  (∀ (fs : List (List Int)) (l : Addr) (H' : Hp), fs.Nodup → (∀ js ∈ fs, Rch ds rs str is js) → 1000 < fs.length → GrS Ps H H' → H' l = some (.tup [.str "wide", .bl true, .bl false]) → Q (.ref l) H') ∧
  ∀ (l : Addr) (as : List Addr) (fs : List (List Int)) (H' : Hp), GrS Ps H H' → H l = none → H' l = some (.lst (as.map V.ref)) → PySem.Paired (NumAt H') as fs → SrtO.Srtd lexL fs → fs.Nodup → (∀ js, js ∈ fs ↔ Rch ds rs str is js) → fs.length ≤ 1000 → Q (.ref l) H'
section
variable {P : Program} {w : World} {K : PySem.W.Frag} {mg : Str → Option Value} {base : Heap} {Ps : List Addr}
abbrev nLTold6 : List Str := ["_law_house_here", "_law_standing", "_law_strength", "_law_kept", "e", "_law_odd"]
theorem scLTold6 : FnScope nLTold6 ["_law_house_here", "_law_standing", "_law_strength"] (defScope sLTold6) := ⟨rfl, rfl, rfl, by decide +kernel, rfl, by decide +kernel, by decide +kernel⟩
theorem ok_ltold {f g CW CL CS CD : Addr} {fd gd : FuncData} (F : Fun K "_law_told" "_law_told" sLTold6 f fd) (T : ClsTxt6 K mg CW CL CS CD) (mi : mg "isinstance" = none)
    (G : FnOk P w K mg base (L2.CX P w) 7 g gd ["house", "standing", "strength"] (spSpread Ps CW)) (bG : Binds K gd ["house", "standing", "strength"] []) (kG : PySem.W.keepIn K (.ref g) = true) (mG : mg "spread" = some (.ref g)) :
    FnOk P w K mg base CX0 8 f fd ["_law_house_here", "_law_standing", "_law_strength"] (spLTold Ps) := by
  refine F.ok scLTold6 (fun vs H Q E h => ?_) (fun cdv A outer s H vs Q E hr h => ?_)
  · obtain ⟨h, t, ds, rs, is, str, rfl, _⟩ := h
    rfl
  obtain ⟨h, t, ds, rs, is, str, rfl, ha, ht, gd1, st1, st3, tb, kE, kQ⟩ := h
  refine ⟨_, pss_cons (ps_set (i := 3) scLTold6.nd rfl (.inl rfl) pe_non) <|
    pss_cons (ps_try_keep (i := 4) (c := .ref CD) (tb := fun W => tRet (tCallS (spSpread Ps CW) (WE W) (tCons (tVar 0) (tCons (tVar 1) (tCons (tVar 2) tNil))))) (ts := fun _ _ _ => tAsg (tVar 4) (gName 3)) (Wout := fun _ _ _ _ => False) rfl rfl rfl scLTold6.nd rfl rfl ⟨rfl, by decide, Or.inl T.mD⟩ takes0
      (fun W pn xe tk _ => pss_one (ps_ret (by exact (pe_callS G hr rfl mG kG bG (fun σ => passAt tk σ) (by exact (pa_cons (pv 0) (pa_cons (pv 1) (pa_cons (pv 2) pa_nil))))))))
      (fun a oe cls d pn hz hf => pss_one (ps_set (i := 3) scLTold6.nd rfl (Or.inl rfl) (by exact (pv 4))))) <|
    pss_cons (ps_set (i := 5) scLTold6.nd rfl (Or.inl rfl) (pe_or (pe_callB call_isKT (by rfl) mi (by decide +kernel) (pa_cons (pv 3) (pa_cons (pe_tup (pa_cons (pe_glob (v := .ref CL) (by rfl) T.mL rfl) (pa_cons (pe_glob (v := .ref CS) (by rfl) T.mS rfl) pa_nil))) pa_nil))) (pe_one (pe_not (pe_callB call_isK (by rfl) mi (by decide +kernel) (pa_cons (pv 3) (pa_cons (pe_bltn (v := .ty "ValueError") (by rfl) T.mV (by decide +kernel) rfl) pa_nil))))))) <|
    pss_one (ps_ret (pe_tup (pa_cons pe_str (pa_cons (pe_callB call_isK (by rfl) mi (by decide +kernel) (pa_cons (pv 3) (pa_cons (pe_glob (v := .ref CW) (by rfl) T.mW rfl) pa_nil))) (pa_cons (pv 5) pa_nil))))), ?_⟩
  refine ⟨_, rfl, _, rfl, _, rfl, h, t, ds, rs, is, str, rfl, ha, ht, gd1, st1, st3, tb, fun fs H1 nd1 ok1 l1 g1 => ?_, kQ⟩
  refine ⟨true, T.te, fun _ a na => ?_, fun q => Bool.noConfusion q⟩
  refine ⟨_, rfl, fun na' => ?_⟩
  have s2 := sameNew na (keptX a (.ref CW) none)
  have ek := upd_same (H := H1) (a := a) (o := keptX a (.ref CW) none)
  generalize upd H1 a (keptX a (.ref CW) none) = H2 at s2 ek ⊢
  refine ⟨_, rfl, by show 2 ≤ sizeLine; decide, fun tt nt => ?_⟩
  have s3 := sameNew nt (.tup [.ref CL, .ref CS])
  have ek3 := s3 _ _ ek
  have htt : upd H2 tt (.tup [.ref CL, .ref CS]) tt = some (.tup [.ref CL, .ref CS]) := upd_same
  generalize upd H2 tt (.tup [.ref CL, .ref CS]) = H3 at s3 ek3 htt ⊢
  refine ⟨a, CW, tt, _, [.ref CL, .ref CS], false, rfl, ek3, T.ex, htt, .cons (.own _) (.cons (.own _) .nil), T.is2, _, rfl, iteF ?_⟩
  refine ⟨_, rfl, a, CW, _, .type "ValueError", true, rfl, ek3, T.ex, .ty _, T.isV, _, rfl, ?_⟩
  refine ⟨_, rfl, a, CW, _, .ref CW, true, rfl, ek3, T.ex, .own _, T.isW, _, rfl, by show 3 ≤ sizeLine; decide, fun l nl => ?_⟩
  exact kE fs l _ nd1 ok1 l1 (g1.trans (GrS.same g1.1 (s2.trans (s3.trans (sameNew nl _))))) upd_same
end
end Pk
end
section
set_option maxHeartbeats 1000000
/-! Numbers only: houses without rules; great dials; two dials bound to one another. -/
namespace Pk
open PySem PySem.Spec PyProof.Rows L2
theorem zip_map_self {α β : Type} (g : α → β) : ∀ {l : List α} {a : α}, a ∈ l → (a, g a) ∈ l.zip (l.map g)
  | [], _, h => by cases h
  | x :: l, a, h => by
    rw [List.map_cons, List.zip_cons_cons]
    rcases List.mem_cons.mp h with rfl | h
    · exact List.mem_cons_self
    · exact List.mem_cons_of_mem _ (zip_map_self g h)
theorem fOf_map {ds : List PyData} (nd : (ds.map nameOf).Nodup) (f : Str → Int) : ∀ z ∈ ds.map nameOf, fOf ds (ds.map fun d => f (nameOf d)) z = f z := fun z hz => by
  obtain ⟨d, hd, rfl⟩ := List.mem_map.mp hz
  exact fOf_zip nd (d, f (nameOf d)) (zip_map_self (fun d => f (nameOf d)) hd)
theorem abs_sym (a b : Int) : absI (a - b) = absI (b - a) := by
  unfold absI
  split <;> split <;> omega
theorem dist_sym (f g : Str → Int) : ∀ ns : List Str, distI ns f g = distI ns g f
  | [] => rfl
  | z :: ns => by
    have ih := dist_sym f g ns
    unfold distI at *
    rw [List.map_cons, List.map_cons, List.sum_cons, List.sum_cons, ih, abs_sym]
theorem goes_trans {w : Str} {x y z : Int} (h1 : goesI w x y) (h2 : goesI w y z) : goesI w x z := by
  refine ⟨fun lt e => ?_, fun lt e => ?_⟩
  · by_cases c : x < y
    · exact h1.1 c e
    · exact h2.1 (by omega) e
  · by_cases c : y < x
    · exact h1.2 c e
    · exact h2.2 (by omega) e
theorem goes_self (w : Str) (x : Int) : goesI w x x := ⟨fun h => absurd h (by omega), fun h => absurd h (by omega)⟩
theorem rch_goes {ds rs : List PyData} {str : Int} {is js : List Int} (h : Rch ds rs str is js) : ∀ z ∈ ds.map nameOf, goesI (wayOf ds z) (fOf ds is z) (fOf ds js z) := by
  induction h with
  | base => exact fun z _ => goes_self _ _
  | step _ _ st ih => exact fun z hz => goes_trans (ih z hz) (st.1 z hz)
theorem Rch.trans {ds rs : List PyData} {str : Int} {is us js : List Int} (h1 : Rch ds rs str is us) (h2 : Rch ds rs str us js) : Rch ds rs str is js := by
  induction h2 with
  | base => exact h1
  | step _ g st ih => exact .step ih g st
/-- without rules all is reached that the pawls let by -/
theorem rch_all {ds : List PyData} (hg : HouseG ds []) {is : List Int} (gi : GoodN ds [] is) {str : Int} (s1 : 1 ≤ str) : ∀ (m : Nat) (js : List Int), GoodN ds [] js → (∀ z ∈ ds.map nameOf, goesI (wayOf ds z) (fOf ds is z) (fOf ds js z)) → (distN ds is js).toNat ≤ m → Rch ds [] str is js := by
  intro m
  induction m with
  | zero =>
    intro js gj go hm
    have nn := distN_nn ds is js
    have e := eq_of_f hg.nd gi.len gj.len (dist_zero (by unfold distN at hm nn; omega))
    rw [← e]
    exact .base
  | succ m ih =>
    intro js gj go hm
    by_cases h1 : 1 ≤ distN ds is js
    · obtain ⟨z, hz, ne⟩ := first_pull h1
      obtain ⟨x, hx⟩ : ∃ x, x = if fOf ds is z < fOf ds js z then fOf ds js z - 1 else fOf ds js z + 1 := ⟨_, rfl⟩
      have eu : ∀ y ∈ ds.map nameOf, fOf ds (ds.map fun d => putF (fOf ds js) z x (nameOf d)) y = putF (fOf ds js) z x y := fOf_map hg.nd _
      have lu : (ds.map fun d => putF (fOf ds js) z x (nameOf d)).length = ds.length := List.length_map _
      generalize (ds.map fun d => putF (fOf ds js) z x (nameOf d)) = us at eu lu
      have si := gi.span z hz
      have sj := gj.span z hz
      have gu : GoodN ds [] us := by
        refine ⟨lu, fun y hy => ?_, fun r hr => by cases hr⟩
        rw [eu y hy]
        by_cases c : y = z
        · subst c
          rw [putF_same, hx]
          split <;> omega
        · rw [putF_ne _ _ c]
          exact gj.span y hy
      have du : distN ds is us = distN ds is js - 1 := by
        have e1 : distN ds is us = distI (ds.map nameOf) (fOf ds is) (putF (fOf ds js) z x) := dist_ext fun y hy => ⟨rfl, eu y hy⟩
        have e2 := dist_put (f0 := fOf ds is) (f := fOf ds js) (x := x) hg.nd hz
        rw [e1, e2, hx]
        unfold distN absI
        split <;> split <;> split <;> omega
      have dj : distN ds us js = 1 := by
        have e1 : distN ds us js = distI (ds.map nameOf) (putF (fOf ds js) z x) (fOf ds js) := dist_ext fun y hy => ⟨eu y hy, rfl⟩
        have e2 := dist_put (f0 := fOf ds js) (f := fOf ds js) (x := x) hg.nd hz
        rw [e1, dist_sym, e2, dist_self, hx]
        unfold absI
        split <;> split <;> split <;> omega
      have go1 : ∀ y ∈ ds.map nameOf, goesI (wayOf ds y) (fOf ds is y) (fOf ds us y) := fun y hy => by
        rw [eu y hy]
        by_cases c : y = z
        · subst c
          rw [putF_same, hx]
          have g := go y hy
          unfold goesI at g ⊢
          constructor
          · intro h
            refine g.1 ?_
            split at h <;> omega
          · intro h
            refine g.2 ?_
            split at h <;> omega
        · rw [putF_ne _ _ c]
          exact go y hy
      have go2 : ∀ y ∈ ds.map nameOf, goesI (wayOf ds y) (fOf ds us y) (fOf ds js y) := fun y hy => by
        rw [eu y hy]
        by_cases c : y = z
        · subst c
          rw [putF_same, hx]
          have g := go y hy
          unfold goesI at g ⊢
          constructor
          · intro h
            refine g.1 ?_
            split at h <;> omega
          · intro h
            refine g.2 ?_
            split at h <;> omega
        · rw [putF_ne _ _ c]
          exact goes_self _ _
      have hdj : distI (ds.map nameOf) (fOf ds us) (fOf ds js) = 1 := dj
      exact .step (ih us gu go1 (by omega)) gj ⟨go2, by omega⟩
    · have nn := distN_nn ds is js
      have e := eq_of_f hg.nd gi.len gj.len (dist_zero (by unfold distN at h1; omega))
      rw [← e]
      exact .base
theorem good_free {ds : List PyData} {js : List Int} (hg : HouseG ds []) : GoodN ds [] js ↔ InBox ds js := by
  rw [good_iff hg]
  exact ⟨fun h => h.1, fun h => ⟨h, rfl⟩⟩
theorem rch_free {ds : List PyData} (hg : HouseG ds []) {is : List Int} (gi : GoodN ds [] is) {str : Int} (s1 : 1 ≤ str) {js : List Int} : Rch ds [] str is js ↔ InBox ds js ∧ ∀ z ∈ ds.map nameOf, goesI (wayOf ds z) (fOf ds is z) (fOf ds js z) := by
  constructor
  · intro h
    exact ⟨(good_free hg).mp (h.good gi), rch_goes h⟩
  · rintro ⟨h1, h2⟩
    exact rch_all hg gi s1 _ js ((good_free hg).mpr h1) h2 (Nat.le_refl _)
theorem paired_zip {α β : Type} {R : α → β → Prop} : ∀ {as : List α} {bs : List β}, as.length = bs.length → (PySem.Paired R as bs ↔ ∀ t ∈ as.zip bs, R t.1 t.2)
  | [], [], _ => ⟨fun _ t h => by simp at h, fun _ => .nil⟩
  | [], _ :: _, h => by cases h
  | _ :: _, [], h => by cases h
  | a :: as, b :: bs, h => by
    have ih := paired_zip (R := R) (as := as) (bs := bs) (by simpa using h)
    rw [List.zip_cons_cons, List.forall_mem_cons]
    constructor
    · intro p
      cases p with
      | cons h1 h2 => exact ⟨h1, ih.mp h2⟩
    · rintro ⟨h1, h2⟩
      exact .cons h1 (ih.mpr h2)
/-- what can be gone to -/
theorem can_iff {ds : List PyData} (hg : HouseG ds []) {is js : List Int} (gi : GoodN ds [] is) (hj : InBox ds js) : canB ds is js = true ↔ ∀ z ∈ ds.map nameOf, goesI (wayOf ds z) (fOf ds is z) (fOf ds js z) := by
  have l2 := hj.len
  have li := gi.len
  have tp := turn_paired hg.nd (es := ds) (is := is) (js := js) (fun d hd => hd) hg.dials gi.len (gi.spans hg)
  have lz : (ds.zip is).length = js.length := by
    rw [List.length_zip]
    omega
  rw [← goes_zip hg.nd gi.len l2]
  have e : canB ds is js = true ↔ PySem.Paired TurnOk (ds.zip is) js := by
    rw [paired_zip lz]
    unfold canB rows3
    rw [List.all_eq_true]
    constructor
    · intro h t ht
      by_cases c : t.1.2 = t.2
      · exact .inl c.symm
      · refine .inr (h t (List.mem_filter.mpr ⟨ht, ?_⟩))
        unfold turnR
        rw [decide_eq_false c]
        rfl
    · intro h t ht
      obtain ⟨h1, h2⟩ := List.mem_filter.mp ht
      unfold turnR at h2
      rcases h t h1 with q | q
      · rw [decide_eq_true q.symm] at h2
        cases h2
      · exact q
  rw [e, tp]
  exact ⟨fun h => h.2.2, fun h => ⟨hj, l2, h⟩⟩
/-- what is due in a house without rules -/
def dueF (ds : List PyData) (is : List Int) : List (List Int) := (boxN ds).filter (canB ds is)
theorem dueF_rise (ds : List PyData) (is : List Int) : Rise (dueF ds is) := (box_rise ds).filter _
theorem mem_dueF {ds : List PyData} (hg : HouseG ds []) {is : List Int} (gi : GoodN ds [] is) {str : Int} (s1 : 1 ≤ str) {js : List Int} : js ∈ dueF ds is ↔ Rch ds [] str is js := by
  unfold dueF
  rw [List.mem_filter, mem_box, rch_free hg gi s1]
  constructor
  · rintro ⟨h1, h2⟩
    exact ⟨h1, (can_iff hg gi h1).mp h2⟩
  · rintro ⟨h1, h2⟩
    exact ⟨h1, (can_iff hg gi h1).mpr h2⟩
theorem box_pow {c : Nat} : ∀ {ds : List PyData}, (∀ d ∈ ds, (spanL d).length ≤ c) → (boxN ds).length ≤ c ^ ds.length := by
  have key : ∀ (m : Nat) (ds : List PyData), ds.length = m → (∀ d ∈ ds, (spanL d).length ≤ c) → (boxN ds).length ≤ c ^ m := by
    intro m
    induction m with
    | zero =>
      intro ds e _
      rw [List.length_eq_zero_iff.mp e]
      exact Nat.le_refl 1
    | succ m ih =>
      intro ds e h
      rcases List.eq_nil_or_concat ds with e0 | ⟨ds', d, e0⟩
      · rw [e0] at e
        cases e
      rw [List.concat_eq_append] at e0
      subst e0
      rw [List.length_append] at e
      have e' : ds'.length = m := by simpa using e
      have eb : boxN (ds' ++ [d]) = boxS (boxN ds') d := by
        unfold boxN
        rw [List.foldl_append]
        rfl
      rw [eb, boxS_len, Nat.pow_succ]
      exact Nat.mul_le_mul (ih ds' e' fun x hx => h x (List.mem_append_left _ hx)) (h d (List.mem_append_right _ (List.mem_singleton.mpr rfl)))
  intro ds h
  exact key _ ds rfl h
/-- a list of tuples of numbers, as data -/
def numsP (fs : List (List Int)) : PyData := .list (fs.map fun is => .tuple (is.map .int))
theorem nums_trAll {H : Hp} : ∀ {as : List Addr} {fs : List (List Int)}, PySem.Paired (NumAt H) as fs → TrAll H (as.map V.ref) (fs.map fun is => PyData.tuple (is.map .int))
  | [], _, .nil => .nil
  | a :: as, _, .cons (b := is) (l₂ := fs) h t => .cons (.tup (.inl h) (trI H is)) (nums_trAll t)
theorem nums_tr {H : Hp} {l : Addr} {as : List Addr} {fs : List (List Int)} (hl : H l = some (.lst (as.map V.ref))) (h : PySem.Paired (NumAt H) as fs) : Tr H (.ref l) (numsP fs) := .lst hl (nums_trAll h)
theorem box_far {ds : List PyData} (hg : ∀ d ∈ ds, DialG d) {js : List Int} (h : InBox ds js) : ∀ j ∈ js, -farS ≤ j ∧ j ≤ farS := by
  induction h with
  | nil => exact fun j hj => by cases hj
  | @cons d n ds js h1 h2 ih =>
    intro j hj
    rcases List.mem_cons.mp hj with rfl | hj
    · obtain ⟨nm, way, lo, hi, up, dn, rfl, _, _, _, b1, b2, b3, _⟩ := hg d List.mem_cons_self
      have h1' : lo ≤ j ∧ j ≤ hi := h1
      omega
    · exact ih (fun e he => hg e (List.mem_cons_of_mem _ he)) j hj
theorem nums_show {ds : List PyData} (hg : ∀ d ∈ ds, DialG d) (l12 : ds.length ≤ 12) {fs : List (List Int)} (h : ∀ js ∈ fs, InBox ds js) (hl : fs.length ≤ 2000) : (numsP fs).showable = true ∧ (numsP fs).depth ≤ 60 ∧ (numsP fs).shown.length ≤ sizeLine := by
  have ff : farS = 1000000000000000000 := rfl
  have each : ∀ js ∈ fs, lv 0 (.tuple (js.map .int)) = true ∧ (PyData.tuple (js.map .int)).bulk ≤ 12 ∧ (PyData.tuple (js.map .int)).depth ≤ 1 := fun js hj => by
    have fr := box_far hg (h js hj)
    have le := (h js hj).len
    refine ⟨?_, ?_, ?_⟩
    · show lvs 0 _ = true
      refine lvs_all fun d hd => ?_
      obtain ⟨j, hj, rfl⟩ := List.mem_map.mp hd
      have := fr j hj
      show decide (j.natAbs ≤ 10 ^ 60 + 0) = true
      rw [decide_eq_true_eq]
      have p : (1000000000000000000 : Nat) ≤ 10 ^ 60 := by decide
      omega
    · show PyData.bulkAll _ ≤ 12
      have := bulk_all (n := 0) (ds := js.map PyData.int) fun d hd => by
        obtain ⟨j, _, rfl⟩ := List.mem_map.mp hd
        exact Nat.le_refl 0
      rw [List.length_map] at this
      omega
    · refine Nat.succ_le_succ (depth_all fun d hd => ?_)
      obtain ⟨j, _, rfl⟩ := List.mem_map.mp hd
      exact Nat.le_refl 0
  have l0 : lv 0 (numsP fs) = true := by
    show lvs 0 _ = true
    refine lvs_all fun d hd => ?_
    obtain ⟨js, hj, rfl⟩ := List.mem_map.mp hd
    exact (each js hj).1
  have bk : (numsP fs).bulk ≤ 100000 := by
    show PyData.bulkAll _ ≤ 100000
    have := bulk_all (n := 12) (ds := fs.map fun is => PyData.tuple (is.map .int)) fun d hd => by
      obtain ⟨js, hj, rfl⟩ := List.mem_map.mp hd
      exact (each js hj).2.1
    rw [List.length_map] at this
    omega
  refine ⟨(lv_ok (k := 0) (by omega) l0 bk).2.1, ?_, lv_shown (k := 0) (by omega) l0 bk⟩
  refine Nat.le_trans (Nat.succ_le_succ (depth_all (n := 1) fun d hd => ?_)) (show 1 + 1 ≤ 60 by decide)
  obtain ⟨js, hj, rfl⟩ := List.mem_map.mp hd
  exact (each js hj).2.2
end Pk
end
section
set_option maxHeartbeats 1000000
/-! Numbers only: great dials, free or held. -/
namespace Pk
open PySem PySem.Spec PyProof.Rows L2
def gDial (nm : Str) (hi : Int) : PyData := .tuple [.str nm, .int (-1000000000000000000), .int hi, .str "both", .int 1, .int 1]
def fDialF (nm : Str) (lo : Int) : PyData := .tuple [.str nm, .int lo, .int (lo + 2), .str "both", .int 1, .int 1]
def offP (a b : Str) : PyData := .tuple [.str "off", .str a, .str b, .int 0]
abbrev nmG (z : Str) : Prop := nmOk z ∧ (1 ≤ z.length ∧ z.length ≤ 8)
theorem both3 : ("both" : Str) ∈ ways3 := by decide +kernel
theorem gDial_ok {nm : Str} {hi : Int} (h : nmG nm) (h1 : 1000000000 ≤ hi) (h2 : hi ≤ 1000000000000000000) : DialG (gDial nm hi) := by
  have ff : farS = 1000000000000000000 := rfl
  exact ⟨nm, "both", _, hi, 1, 1, rfl, h.1, h.2, both3, by omega, by omega, by omega, by decide, by decide, by decide, by decide⟩
theorem fDial_ok {nm : Str} {lo : Int} (h : nmG nm) (h1 : -4 ≤ lo) (h2 : lo ≤ 4) : DialG (fDialF nm lo) := by
  have ff : farS = 1000000000000000000 := rfl
  exact ⟨nm, "both", lo, lo + 2, 1, 1, rfl, h.1, h.2, both3, by omega, by omega, by omega, by decide, by decide, by decide, by decide⟩
theorem house1 {a : Str} {hi : Int} (ga : nmG a) (h1 : 1000000000 ≤ hi) (h2 : hi ≤ 1000000000000000000) : HouseG [gDial a hi] [] := by
  have dg : ∀ d ∈ [gDial a hi], DialG d := fun d hd => by rw [List.mem_singleton.mp hd]; exact gDial_ok ga h1 h2
  have nd : ([gDial a hi].map nameOf).Nodup := List.nodup_cons.mpr ⟨by simp, List.nodup_nil⟩
  exact ⟨(show 1 ≤ 1 by decide), (show 1 ≤ 12 by decide), (show 0 ≤ 40 by decide), dg, (fun r hr => by cases hr), nd, fd_none (fun d hd => dial_ok (dg d hd)) rfl nd, rfl⟩
section
variable {a b : Str} {hi lo : Int}
theorem dials2 (ga : nmG a) (gb : nmG b) (h1 : 1000000000 ≤ hi) (h2 : hi ≤ 1000000000000000000) (l1 : -4 ≤ lo) (l2 : lo ≤ 4) : ∀ d ∈ [gDial a hi, fDialF b lo], DialG d := fun d hd => by
  rcases List.mem_cons.mp hd with rfl | hd
  · exact gDial_ok ga h1 h2
  · rw [List.mem_singleton.mp hd]
    exact fDial_ok gb l1 l2
theorem nd2 (ne : a ≠ b) : ([gDial a hi, fDialF b lo].map nameOf).Nodup := by
  show [a, b].Nodup
  rw [List.nodup_cons]
  exact ⟨by rw [List.mem_singleton]; exact ne, List.nodup_cons.mpr ⟨by simp, List.nodup_nil⟩⟩
theorem house2 (ga : nmG a) (gb : nmG b) (ne : a ≠ b) (srt : PyProof.Rows.sortedS [a, b] = true) (h1 : 1000000000 ≤ hi) (h2 : hi ≤ 1000000000000000000) (l1 : -4 ≤ lo) (l2 : lo ≤ 4) : HouseG [gDial a hi, fDialF b lo] [] := by
  have dg := dials2 ga gb h1 h2 l1 l2
  exact ⟨(show 1 ≤ 2 by decide), (show 2 ≤ 12 by decide), (show 0 ≤ 40 by decide), dg, (fun r hr => by cases hr), nd2 ne, fd_none (fun d hd => dial_ok (dg d hd)) srt (nd2 ne), rfl⟩
theorem house3 (ga : nmG a) (gb : nmG b) (ne : a ≠ b) (srt : PyProof.Rows.sortedS [a, b] = true) (h1 : 1000000000 ≤ hi) (h2 : hi ≤ 1000000000000000000) (l1 : -4 ≤ lo) (l2 : lo ≤ 4) : HouseG [gDial a hi, fDialF b lo] [offP a b, offP b a] := by
  have dg := dials2 ga gb h1 h2 l1 l2
  have p3 : ("off" : Str) ∈ pairs3 := by decide +kernel
  have gg := greatG
  have ma : a ∈ ([gDial a hi, fDialF b lo].map nameOf) := List.mem_cons_self
  have mb : b ∈ ([gDial a hi, fDialF b lo].map nameOf) := List.mem_cons_of_mem _ (List.mem_singleton.mpr rfl)
  have r1 : RuleG ([gDial a hi, fDialF b lo].map nameOf) (offP a b) := rule_pair p3 ma mb ne ga.1 gb.1 (by omega) (by omega)
  have r2 : RuleG ([gDial a hi, fDialF b lo].map nameOf) (offP b a) := rule_pair p3 mb ma (fun e => ne e.symm) gb.1 ga.1 (by omega) (by omega)
  refine ⟨(show 1 ≤ 2 by decide), (show 2 ≤ 12 by decide), (show 2 ≤ 40 by decide), dg, fun r hr => ?_, nd2 ne, fd_none (fun d hd => dial_ok (dg d hd)) srt (nd2 ne), ?_⟩
  · rcases List.mem_cons.mp hr with rfl | hr
    · exact r1
    · rw [List.mem_singleton.mp hr]
      exact r2
  · refine fr_snoc (rs := [offP a b]) r2.rule (fr_snoc (rs := []) r1.rule rfl rfl) ?_
    show (PyData.eqv (offP a b) (offP b a) || false) = false
    rw [Bool.or_false]
    unfold offP
    simp [PyData.eqv, PyData.eqvAll, ne]
theorem fOf_a (ne : a ≠ b) (x y : Int) : fOf [gDial a hi, fDialF b lo] [x, y] a = x := by
  show lookE ((a, x) :: _) a = x
  rw [look_head, if_pos rfl]
theorem fOf_b (ne : a ≠ b) (x y : Int) : fOf [gDial a hi, fDialF b lo] [x, y] b = y := by
  show lookE ((a, x) :: (b, y) :: _) b = y
  rw [look_head, if_neg ne, look_head, if_pos rfl]
theorem ways2 (ne : a ≠ b) : ∀ z ∈ [gDial a hi, fDialF b lo].map nameOf, wayOf [gDial a hi, fDialF b lo] z = "both" := fun z hz => by
  have hz : z ∈ [a, b] := hz
  rcases List.mem_cons.mp hz with rfl | hz
  · exact way_dial (nd2 ne) List.mem_cons_self
  · rw [List.mem_singleton.mp hz]
    exact way_dial (nd2 ne) (List.mem_cons_of_mem _ (List.mem_singleton.mpr rfl))
theorem goes_both (x y : Int) : goesI "both" x y := ⟨fun _ e => by revert e; decide, fun _ e => by revert e; decide⟩
theorem box2 {x y : Int} : InBox [gDial a hi, fDialF b lo] [x, y] ↔ (-1000000000000000000 ≤ x ∧ x ≤ hi) ∧ lo ≤ y ∧ y ≤ lo + 2 := by
  constructor
  · intro h
    cases h with
    | cons h1 h2 =>
      cases h2 with
      | cons h3 _ => exact ⟨h1, h3⟩
  · rintro ⟨h1, h2⟩
    exact .cons h1 (.cons h2 .nil)
/-- many numbers of a great dial -/
def manyL (at_ : Int) (r : List Int) : List (List Int) := (List.range 1001).map fun k => (at_ - (k : Nat)) :: r
theorem manyL_len (at_ : Int) (r : List Int) : (manyL at_ r).length = 1001 := by
  unfold manyL
  rw [List.length_map, List.length_range]
theorem manyL_nd (at_ : Int) (r : List Int) : (manyL at_ r).Nodup := by
  unfold manyL
  refine List.pairwise_map.mpr (List.Pairwise.imp ?_ List.nodup_range)
  intro x y ne e
  have := (List.cons.inj e).1
  exact ne (by omega)
theorem mem_manyL {at_ : Int} {r js : List Int} (h : js ∈ manyL at_ r) : ∃ k : Nat, k ≤ 1000 ∧ js = (at_ - (k : Nat)) :: r := by
  unfold manyL at h
  obtain ⟨k, hk, rfl⟩ := List.mem_map.mp h
  exact ⟨k, by have := List.mem_range.mp hk; omega, rfl⟩
theorem great_many {ds : List PyData} (hg : HouseG ds []) {is : List Int} (gi : GoodN ds [] is) {str : Int} (s1 : 1 ≤ str) {L : List (List Int)} (nd : L.Nodup) (inb : ∀ js ∈ L, InBox ds js) (ways : ∀ z ∈ ds.map nameOf, wayOf ds z = "both") {fs : List (List Int)} (mem : ∀ js, js ∈ fs ↔ Rch ds [] str is js) : L.length ≤ fs.length := nodup_le nd fun js hj => (mem js).mpr ((rch_free hg gi s1).mpr ⟨inb js hj, fun z hz => by rw [ways z hz]; exact goes_both _ _⟩)
theorem good3 (ga : nmG a) (gb : nmG b) (ne : a ≠ b) (srt : PyProof.Rows.sortedS [a, b] = true) (h1 : 1000000000 ≤ hi) (h2 : hi ≤ 1000000000000000000) (l1 : -4 ≤ lo) (l2 : lo ≤ 4) {x y : Int} : GoodN [gDial a hi, fDialF b lo] [offP a b, offP b a] [x, y] ↔ x = y ∧ lo ≤ x ∧ x ≤ lo + 2 := by
  have hg := house3 ga gb ne srt h1 h2 l1 l2
  have r1 : ∀ is, rulH (fOf [gDial a hi, fDialF b lo] is) (rulOf (offP a b)) = decide (fOf [gDial a hi, fDialF b lo] is a ≤ fOf [gDial a hi, fDialF b lo] is b + 0) := fun is => rfl
  have r2 : ∀ is, rulH (fOf [gDial a hi, fDialF b lo] is) (rulOf (offP b a)) = decide (fOf [gDial a hi, fDialF b lo] is b ≤ fOf [gDial a hi, fDialF b lo] is a + 0) := fun is => rfl
  constructor
  · intro g
    have bx := box2.mp ((good_iff hg).mp g).1
    have q1 := g.rule _ List.mem_cons_self
    have q2 := g.rule _ (List.mem_cons_of_mem _ (List.mem_singleton.mpr rfl))
    rw [r1, fOf_a ne, fOf_b ne, decide_eq_true_eq] at q1
    rw [r2, fOf_a ne, fOf_b ne, decide_eq_true_eq] at q2
    omega
  · rintro ⟨rfl, q1, q2⟩
    have bx : InBox [gDial a hi, fDialF b lo] [x, x] := box2.mpr ⟨by omega, q1, q2⟩
    refine ⟨rfl, fun z hz => ?_, fun r hr => ?_⟩
    · have hz : z ∈ [a, b] := hz
      rcases List.mem_cons.mp hz with rfl | hz
      · have e := ends_dial (nd2 (a := z) (b := b) (hi := hi) (lo := lo) ne) (d := gDial z hi) List.mem_cons_self
        rw [show nameOf (gDial z hi) = z from rfl] at e
        rw [fOf_a ne, e]
        show -1000000000000000000 ≤ x ∧ x ≤ hi
        omega
      · rw [List.mem_singleton.mp hz, fOf_b ne]
        have e := ends_dial (nd2 (a := a) (b := b) (hi := hi) (lo := lo) ne) (d := fDialF b lo) (List.mem_cons_of_mem _ (List.mem_singleton.mpr rfl))
        rw [show nameOf (fDialF b lo) = b from rfl] at e
        rw [e]
        exact ⟨q1, q2⟩
    · rcases List.mem_cons.mp hr with rfl | hr
      · rw [r1, fOf_a ne, fOf_b ne]
        exact decide_eq_true (by omega)
      · rw [List.mem_singleton.mp hr, r2, fOf_a ne, fOf_b ne]
        exact decide_eq_true (by omega)
theorem dist2 (ne : a ≠ b) (x y u v : Int) : distN [gDial a hi, fDialF b lo] [x, y] [u, v] = absI (x - u) + absI (y - v) := by
  rw [← far_dist (nd2 ne) rfl rfl]
  show absI (x - u) + (absI (y - v) + 0) = _
  omega
theorem step3 (ne : a ≠ b) {x y str : Int} (h : absI (x - y) + absI (x - y) ≤ str) : StepN [gDial a hi, fDialF b lo] str [x, x] [y, y] := by
  refine ⟨fun z hz => ?_, ?_⟩
  · rw [ways2 ne z hz]
    exact goes_both _ _
  · have := dist2 (hi := hi) (lo := lo) ne x x y y
    unfold distN at this
    omega
theorem two_of : ∀ {js : List Int}, js.length = 2 → ∃ x y, js = [x, y]
  | [x, y], _ => ⟨x, y, rfl⟩
/-- what is reached in the held house -/
theorem rch3 (ga : nmG a) (gb : nmG b) (ne : a ≠ b) (srt : PyProof.Rows.sortedS [a, b] = true) (h1 : 1000000000 ≤ hi) (h2 : hi ≤ 1000000000000000000) (l1 : -4 ≤ lo) (l2 : lo ≤ 4) {at_ str : Int} (a1 : lo ≤ at_) (a2 : at_ ≤ lo + 2) (s1 : 1 ≤ str) {js : List Int} : Rch [gDial a hi, fDialF b lo] [offP a b, offP b a] str [at_, at_] js ↔ ∃ x, js = [x, x] ∧ lo ≤ x ∧ x ≤ lo + 2 ∧ (str = 1 → x = at_) := by
  have gd : ∀ {x y : Int}, GoodN [gDial a hi, fDialF b lo] [offP a b, offP b a] [x, y] ↔ x = y ∧ lo ≤ x ∧ x ≤ lo + 2 := good3 ga gb ne srt h1 h2 l1 l2
  constructor
  · intro h
    induction h with
    | base => exact ⟨at_, rfl, a1, a2, fun _ => rfl⟩
    | @step us js hr g st ih =>
      obtain ⟨x, rfl, x1, x2, x3⟩ := ih
      obtain ⟨u, v, rfl⟩ := two_of g.len
      obtain ⟨rfl, q1, q2⟩ := gd.mp g
      refine ⟨u, rfl, q1, q2, fun e => ?_⟩
      have d := st.2
      have := dist2 (hi := hi) (lo := lo) ne x x u u
      unfold distN at this
      rw [this, e] at d
      have := abs_nn (x - u)
      have z := abs_zero (show absI (x - u) = 0 by omega)
      have := x3 e
      omega
  · rintro ⟨x, rfl, x1, x2, x3⟩
    by_cases e : str = 1
    · rw [x3 e]
      exact .base
    · have one : ∀ u v : Int, lo ≤ v → v ≤ lo + 2 → (u - v = 1 ∨ v - u = 1) → Rch [gDial a hi, fDialF b lo] [offP a b, offP b a] str [at_, at_] [u, u] → Rch [gDial a hi, fDialF b lo] [offP a b, offP b a] str [at_, at_] [v, v] := fun u v v1 v2 w h =>
        .step h (gd.mpr ⟨rfl, v1, v2⟩) (step3 ne (by unfold absI; split <;> omega))
      have base : Rch [gDial a hi, fDialF b lo] [offP a b, offP b a] str [at_, at_] [at_, at_] := .base
      rcases (show x = at_ ∨ (x = at_ + 1) ∨ (x = at_ - 1) ∨ (x = at_ + 2) ∨ (x = at_ - 2) by omega) with rfl | rfl | rfl | rfl | rfl
      · exact base
      · exact one _ _ x1 x2 (by omega) base
      · exact one _ _ x1 x2 (by omega) base
      · exact one _ _ x1 x2 (by omega) (one at_ (at_ + 1) (by omega) (by omega) (by omega) base)
      · exact one _ _ x1 x2 (by omega) (one at_ (at_ - 1) (by omega) (by omega) (by omega) base)
end
/-- what is due there -/
def due3 (lo at_ str : Int) : List (List Int) := if str = 1 then [[at_, at_]] else [[lo, lo], [lo + 1, lo + 1], [lo + 2, lo + 2]]
theorem mem_due3 {lo at_ str : Int} (a1 : lo ≤ at_) (a2 : at_ ≤ lo + 2) {js : List Int} : js ∈ due3 lo at_ str ↔ ∃ x, js = [x, x] ∧ lo ≤ x ∧ x ≤ lo + 2 ∧ (str = 1 → x = at_) := by
  unfold due3
  by_cases c : str = 1
  · rw [if_pos c, List.mem_singleton]
    constructor
    · rintro rfl
      exact ⟨at_, rfl, a1, a2, fun _ => rfl⟩
    · rintro ⟨x, rfl, _, _, h⟩
      rw [h c]
  · rw [if_neg c]
    constructor
    · intro h
      simp only [List.mem_cons, List.not_mem_nil, or_false] at h
      rcases h with rfl | rfl | rfl
      · exact ⟨lo, rfl, by omega, by omega, fun e => absurd e c⟩
      · exact ⟨lo + 1, rfl, by omega, by omega, fun e => absurd e c⟩
      · exact ⟨lo + 2, rfl, by omega, by omega, fun e => absurd e c⟩
    · rintro ⟨x, rfl, x1, x2, _⟩
      rcases (show x = lo ∨ x = lo + 1 ∨ x = lo + 2 by omega) with rfl | rfl | rfl
      · exact List.mem_cons_self
      · exact List.mem_cons_of_mem _ List.mem_cons_self
      · exact List.mem_cons_of_mem _ (List.mem_cons_of_mem _ List.mem_cons_self)
theorem due3_rise (lo at_ str : Int) : Rise (due3 lo at_ str) := by
  unfold due3
  by_cases c : str = 1
  · rw [if_pos c]
    exact List.pairwise_singleton _ _
  · rw [if_neg c]
    have e : ∀ x y : Int, x < y → lexL [x, x] [y, y] = true := fun x y h => by
      show (if x = y then _ else decide (x < y)) = true
      rw [if_neg (by omega)]
      exact decide_eq_true h
    refine List.pairwise_cons.mpr ⟨fun z hz => ?_, List.pairwise_cons.mpr ⟨fun z hz => ?_, List.pairwise_singleton _ _⟩⟩
    · rcases List.mem_cons.mp hz with rfl | hz
      · exact e _ _ (by omega)
      · rw [List.mem_singleton.mp hz]
        exact e _ _ (by omega)
    · rw [List.mem_singleton.mp hz]
      exact e _ _ (by omega)
end Pk
end
section
set_option maxHeartbeats 4000000
/-! The law's own: houses without rules, of a thousand standings and few more or less. -/
namespace Pk
open PySem PySem.Spec PyProof.Rows L2
abbrev sLWide : Stmt := topH 80
def szs : List (List Int) := [[10, 10, 10], [7, 11, 13], [1000], [1001], [2, 2, 2, 2, 2, 2], [8, 5, 25], [3, 3, 3, 2, 2]]
def prodI : List Int → Int
  | [] => 1
  | x :: xs => x * prodI xs
theorem szs_ok : ∀ sz ∈ szs, 1 ≤ sz.length ∧ sz.length ≤ 6 ∧ (∀ s ∈ sz, 2 ≤ s ∧ s ≤ 1001) ∧ ∀ i, i ≤ sz.length → prodI (sz.take i) ≤ 1001 := by decide +kernel
/-- a dial that lies there -/
def DialAt (H : Hp) (b : Addr) (d : PyData) : Prop := ∃ (nm way : Str) (lo hi up dn : Int), d = .tuple [.str nm, .int lo, .int hi, .str way, .int up, .int dn] ∧ H b = some (.tup [.str nm, .int lo, .int hi, .str way, .int up, .int dn])
theorem dials_tr {H : Hp} : ∀ {bs : List Addr} {ds : List PyData}, PySem.Paired (DialAt H) bs ds → TrAll H (bs.map V.ref) ds
  | [], _, .nil => .nil
  | b :: bs, _, .cons (b := d) (l₂ := ds) h t => .cons (by
      obtain ⟨nm, way, lo, hi, up, dn, rfl, e⟩ := h
      exact .tup (.inl e) (.cons (.str _) (.cons (.int _) (.cons (.int _) (.cons (.str _) (.cons (.int _) (.cons (.int _) .nil))))))) (dials_tr t)
theorem box_prod : ∀ {ds : List PyData} {sz : List Int}, PySem.Paired (fun d s => ((spanL d).length : Int) = s) ds sz → ((boxN ds).length : Int) = prodI sz := by
  have key : ∀ (ds : List PyData) (sz : List Int), PySem.Paired (fun d s => ((spanL d).length : Int) = s) ds sz → ∀ acc : List (List Int), ((ds.foldl boxS acc).length : Int) = acc.length * prodI sz := by
    intro ds sz h
    induction h with
    | nil => exact fun acc => (Int.mul_one _).symm
    | @cons d s ds sz h t ih =>
      intro acc
      rw [List.foldl_cons, ih, boxS_len, Int.natCast_mul, h, Int.mul_assoc]
      rfl
  intro ds sz h
  have q := key ds sz h [[]]
  rw [show (([[]] : List (List Int)).length : Int) = 1 from rfl, Int.one_mul] at q
  exact q
theorem paired_take {α β : Type} {R : α → β → Prop} : ∀ {as : List α} {bs : List β} (i : Nat), PySem.Paired R as bs → PySem.Paired R (as.take i) (bs.take i)
  | _, _, 0, _ => .nil
  | _, _, _ + 1, .nil => .nil
  | _, _, i + 1, .cons h t => .cons h (paired_take i t)
theorem span_len {d : PyData} {lo hi s : Int} (e : endsD d = (lo, hi)) (h : hi = lo + s - 1) (s0 : 0 ≤ s) : ((spanL d).length : Int) = s := by
  unfold spanL
  rw [upI_len, e]
  show ((hi + 1 - lo).toNat : Int) = s
  omega
def wideP : PyData := .tuple [.str "wide", .bool true, .bool false]
theorem wide_ok : wideP.showable = true ∧ wideP.depth ≤ 60 ∧ wideP.shown.length ≤ sizeLine :=
  ⟨(lv_ok (k := 0) (by omega) (d := wideP) (by decide +kernel) (by decide +kernel)).2.1, by decide +kernel, lv_shown (k := 0) (by omega) (by decide +kernel) (by decide +kernel)⟩
theorem wide_tr {H : Hp} {l : Addr} (h : H l = some (.tup [.str "wide", .bl true, .bl false])) : Tr H (.ref l) wideP := .tup (.inl h) (.cons (.str _) (.cons (.bl _) (.cons (.bl _) .nil)))
def spLWide (Ps : List Addr) : Sp := fun vs H Q _ => ∃ (p c : Addr) (n : Int), vs = [.ref p] ∧ PenC H p c n ∧ n ≤ 50000000 ∧ Tabs Ps H ∧ ∀ H', PenC H' p c (n + 500) → Tabs Ps H' → Q (.bl true) H'
section
variable {P : Program} {w : World} {K : PySem.W.Frag} {mg : Str → Option Value} {base : Heap} {Ps : List Addr}
abbrev nLWide : List Str := ["_law_pen_here", "_law_sizes", "_law_names_here", "_law_dials", "_law_numbers", "_law_k", "_law_low", "_law_way", "_law_house_here", "_law_here", "_law_due", "_law_one"]
theorem scLWide : FnScope nLWide ["_law_pen_here"] (defScope sLWide) := ⟨rfl, rfl, rfl, by decide +kernel, rfl, by decide +kernel, by decide +kernel⟩
theorem ok_lwide {f gD gN gK gA gC gT : Addr} {fd dD dN dK dA dC dT : FuncData} (F : Fun K "_law_wide_right" "_law_wide_right" sLWide f fd) (B : Blt mg)
    (GD : FnOk P w K mg base CX0 1 gD dD ["_law_pen_here", "_law_many"] spDrawC) (bD : Binds K dD ["_law_pen_here", "_law_many"] []) (kD : PySem.W.keepIn K (.ref gD) = true) (mD : mg "_law_draw" = some (.ref gD))
    (GN : FnOk P w K mg base CX0 3 gN dN ["_law_pen_here", "_law_many"] spNames) (bN : Binds K dN ["_law_pen_here", "_law_many"] []) (kN : PySem.W.keepIn K (.ref gN) = true) (mN : mg "_law_names" = some (.ref gN))
    (GK : FnOk P w K mg base CX0 2 gK dK ["_law_pen_here", "_law_some"] spPick) (bK : Binds K dK ["_law_pen_here", "_law_some"] []) (kK : PySem.W.keepIn K (.ref gK) = true) (mK : mg "_law_pick" = some (.ref gK))
    (GA : FnOk P w K mg base CX0 1 gA dA ["_law_house_here"] spLAll) (bA : Binds K dA ["_law_house_here"] []) (kA : PySem.W.keepIn K (.ref gA) = true) (mA : mg "_law_all" = some (.ref gA))
    (GC : FnOk P w K mg base CX0 2 gC dC ["_law_house_here", "_law_here", "_law_there"] spLCan) (bC : Binds K dC ["_law_house_here", "_law_here", "_law_there"] []) (kC : PySem.W.keepIn K (.ref gC) = true) (mC : mg "_law_can" = some (.ref gC))
    (GT : FnOk P w K mg base CX0 8 gT dT ["_law_house_here", "_law_standing", "_law_strength"] (spLTold Ps)) (bT : Binds K dT ["_law_house_here", "_law_standing", "_law_strength"] []) (kT : PySem.W.keepIn K (.ref gT) = true) (mT : mg "_law_told" = some (.ref gT)) :
    FnG P w K mg base 9 f fd ["_law_pen_here"] (spLWide Ps) := by
  refine Fun.okG F scLWide (fun vs H Q E h => ?_) (fun cdv A outer s H vs Q E hgd hr h => ?_)
  · obtain ⟨p, c, n, rfl, _⟩ := h
    rfl
  obtain ⟨p, c, n, rfl, pen, hn, tab, k⟩ := h
  have hr1 : Room 1 _ := hr.mono (by decide)
  have hr2 : Room 2 _ := hr.mono (by decide)
  have hr3 : Room 3 _ := hr.mono (by decide)
  have hu0 := hr.units0
  have h100 : (A.deeper (PyProof.Rows.envOfC "_law_wide_right" (defScope sLWide) s.heap.objs.size f cdv)).units + 100 < cLine := by
    have := hr.un
    omega
  have hgd' : (A.deeper (PyProof.Rows.envOfC "_law_wide_right" (defScope sLWide) s.heap.objs.size f cdv)).guards = some [] := hgd
  refine ⟨_, pss_cons (ps_set (i := 1) scLWide.nd rfl (.inl rfl) (pe_call GK hr2 rfl mK kK bK .nil pass0 (pa_cons (pv 0) (pa_cons (pe_lst (pa_cons (pe_lst (pa_cons pe_int (pa_cons pe_int (pa_cons pe_int pa_nil)))) <| pa_cons (pe_lst (pa_cons pe_int (pa_cons pe_int (pa_cons pe_int pa_nil)))) <| pa_cons (pe_lst (pa_cons pe_int pa_nil)) <| pa_cons (pe_lst (pa_cons pe_int pa_nil)) <| pa_cons (pe_lst (pa_cons pe_int (pa_cons pe_int (pa_cons pe_int (pa_cons pe_int (pa_cons pe_int (pa_cons pe_int pa_nil))))))) <| pa_cons (pe_lst (pa_cons pe_int (pa_cons pe_int (pa_cons pe_int pa_nil)))) <| pa_cons (pe_lst (pa_cons pe_int (pa_cons pe_int (pa_cons pe_int (pa_cons pe_int (pa_cons pe_int pa_nil)))))) pa_nil)) pa_nil)))) <|
    pss_cons (ps_par3 (i := 2) (j := 3) (l := 4) (by rfl) scLWide.nd rfl rfl rfl (by decide) (by decide) (by decide) rfl rfl rfl (pa_cons (pe_callB cr_sortedS (by rfl) B.sorted (by decide +kernel) (pa_cons (pe_call GN hr3 rfl mN kN bN .nil pass0 (pa_cons (pv 0) (pa_cons (pe_callB call_len_seq (by rfl) B.len PySem.boot_len (pa_cons (pv 1) pa_nil)) pa_nil))) pa_nil)) (pa_cons (pe_lst pa_nil) (pa_cons (pe_lst pa_nil) pa_nil))) (by rfl)) <|
    pss_cons (ps_for PassesOwn.never rfl (pi_range1 rfl B.range (pa_cons (pe_callB call_len_seq (by rfl) B.len PySem.boot_len (pa_cons (pv 1) pa_nil)) pa_nil)) (pg_name (i := 5) scLWide.nd rfl (.inl rfl))
      (pss_cons (ps_par (i := 6) (j := 7) (by rfl) scLWide.nd rfl rfl (by decide) rfl rfl (pa_cons (pe_op op_sub (pe_call GD hr1 rfl mD kD bD .nil pass0 (pa_cons (pv 0) (pa_cons pe_int pa_nil))) pe_int) (pa_cons (pe_call GK hr2 rfl mK kK bK .nil pass0 (pa_cons (pv 0) (pa_cons (pe_lst (pa_cons pe_str (pa_cons pe_str (pa_cons pe_str (pa_cons pe_str (pa_cons pe_str (pa_cons pe_str pa_nil))))))) pa_nil))) pa_nil)) (by rfl)) <|
       pss_cons (ps_expr (pe_bm PySem.F.plainAttrs_list PySem.F.slot_list_append PySem.F.type_list_append mt_append (pv 3) (pa_cons (pe_tup (pa_cons (pe_ix ix_list (pv 2) (pv 5) (fun _ _ => rfl)) <| pa_cons (pv 6) <| pa_cons (pe_op op_sub (pe_op op_add (pv 6) (pe_ix ix_list (pv 1) (pv 5) (fun _ _ => rfl))) pe_int) <| pa_cons (pv 7) <| pa_cons pe_int <| pa_cons (pe_op op_add pe_int (pe_call GD hr1 rfl mD kD bD .nil pass0 (pa_cons (pv 0) (pa_cons pe_int pa_nil)))) pa_nil)) pa_nil))) <|
       pss_one (ps_expr (pe_bm PySem.F.plainAttrs_list PySem.F.slot_list_append PySem.F.type_list_append mt_append (pv 4) (pa_cons (pe_op op_add (pv 6) (pe_call GD hr1 rfl mD kD bD .nil pass0 (pa_cons (pv 0) (pa_cons (pe_ix ix_list (pv 1) (pv 5) (fun _ _ => rfl)) pa_nil)))) pa_nil))))) <|
    pss_cons (ps_asg (pe_tup (pa_cons (pe_tup (pa_cons (pe_callTy call_tuple_of (by rfl) B.tuple (by decide +kernel) (pa_cons (pv 3) pa_nil)) (pa_cons (pe_tup pa_nil) pa_nil))) (pa_cons (pe_callTy call_tuple_of (by rfl) B.tuple (by decide +kernel) (pa_cons (pv 4) pa_nil)) pa_nil))) (pg_tup (by rfl) (pgs_cons (pg_name (i := 8) scLWide.nd rfl (.inr rfl)) <| pgs_cons (pg_name (i := 9) scLWide.nd rfl (.inr rfl)) pgs_nil))) <|
    pss_cons (ps_setLc (i := 10) (own := [("_law_one", 11)]) (g := gName 11) (by rfl) scLWide.nd rfl rfl (sw_true rfl rfl rfl (by decide +kernel)) (pi_list (pe_call GA hr1 rfl mA kA bA .nil pass0 (pa_cons (pv 8) pa_nil))) (blkOk_by (N := nLWide) (sc := defScope sLWide) (by decide +kernel)) (fun _ _ _ _ _ => pg_name (i := 11) scLWide.nd rfl (Or.inl rfl)) (fun _ _ _ _ _ => pts_one (pt_val (pe_call GC hr2 rfl mC kC bC .nil pass0 (pa_cons (pv 8) (pa_cons (pv 9) (pa_cons (pv 11) pa_nil)))))) (fun _ _ _ _ _ => pv 11)) <|
    pss_cons (ps_if (pt_cmpR op_gt (pe_callB call_len_seq (by rfl) B.len PySem.boot_len (pa_cons (pv 10) pa_nil)) pe_int (nomark _)) (pss_one (ps_set (i := 10) scLWide.nd rfl (.inl rfl) (pe_tup (pa_cons pe_str (pa_cons pe_bl (pa_cons pe_bl pa_nil)))))) pss_nil) <|
    pss_one (ps_ret (pe_cmpR op_eq (pe_callB (call_reprT hgd' h100) (by rfl) B.repr (by decide +kernel) (pa_cons (pe_call GT hr rfl mT kT bT .nil pass0 (pa_cons (pv 8) (pa_cons (pv 9) (pa_cons (pe_op op_add pe_int (pe_call GD hr1 rfl mD kD bD .nil pass0 (pa_cons (pv 0) (pa_cons pe_int pa_nil)))) pa_nil)))) pa_nil)) (pe_callB (call_reprT hgd' h100) (by rfl) B.repr (by decide +kernel) (pa_cons (pv 10) pa_nil)) (nomark _))), ?_⟩
  have mp := List.mem_cons_self (a := p) (l := [])
  have ff : farS = 1000000000000000000 := rfl
  have szl := sizeLine_eq
  -- the sizes
  refine ⟨_, rfl, by show 3 ≤ sizeLine; decide, fun l1 n1 => ⟨by show 3 ≤ sizeLine; decide, fun l2 n2 => ⟨by show 1 ≤ sizeLine; decide, fun l3 n3 => ⟨by show 1 ≤ sizeLine; decide, fun l4 n4 => ⟨by show 6 ≤ sizeLine; decide, fun l5 n5 => ⟨by show 3 ≤ sizeLine; decide, fun l6 n6 => ⟨by show 5 ≤ sizeLine; decide, fun l7 n7 => ⟨by show 7 ≤ sizeLine; decide, fun L nL => ?_⟩⟩⟩⟩⟩⟩⟩⟩
  obtain ⟨H1, e1⟩ : ∃ H1, H1 = upd H l1 (.lst [.int 10, .int 10, .int 10]) := ⟨_, rfl⟩
  rw [← e1] at n2 n3 n4 n5 n6 n7 nL ⊢
  obtain ⟨H2, e2⟩ : ∃ H2, H2 = upd H1 l2 (.lst [.int 7, .int 11, .int 13]) := ⟨_, rfl⟩
  rw [← e2] at n3 n4 n5 n6 n7 nL ⊢
  obtain ⟨H3, e3⟩ : ∃ H3, H3 = upd H2 l3 (.lst [.int 1000]) := ⟨_, rfl⟩
  rw [← e3] at n4 n5 n6 n7 nL ⊢
  obtain ⟨H4, e4⟩ : ∃ H4, H4 = upd H3 l4 (.lst [.int 1001]) := ⟨_, rfl⟩
  rw [← e4] at n5 n6 n7 nL ⊢
  obtain ⟨H5, e5⟩ : ∃ H5, H5 = upd H4 l5 (.lst [.int 2, .int 2, .int 2, .int 2, .int 2, .int 2]) := ⟨_, rfl⟩
  rw [← e5] at n6 n7 nL ⊢
  obtain ⟨H6, e6⟩ : ∃ H6, H6 = upd H5 l6 (.lst [.int 8, .int 5, .int 25]) := ⟨_, rfl⟩
  rw [← e6] at n7 nL ⊢
  obtain ⟨H7, e7⟩ : ∃ H7, H7 = upd H6 l7 (.lst [.int 3, .int 3, .int 3, .int 2, .int 2]) := ⟨_, rfl⟩
  rw [← e7] at nL ⊢
  have s1 : Same H H1 := by rw [e1]; exact sameNew n1 _
  have s2 : Same H1 H2 := by rw [e2]; exact sameNew n2 _
  have s3 : Same H2 H3 := by rw [e3]; exact sameNew n3 _
  have s4 : Same H3 H4 := by rw [e4]; exact sameNew n4 _
  have s5 : Same H4 H5 := by rw [e5]; exact sameNew n5 _
  have s6 : Same H5 H6 := by rw [e6]; exact sameNew n6 _
  have s7 : Same H6 H7 := by rw [e7]; exact sameNew n7 _
  have h1 : H7 l1 = some (.lst (([10, 10, 10] : List Int).map V.int)) := s7 _ _ (s6 _ _ (s5 _ _ (s4 _ _ (s3 _ _ (s2 _ _ (by rw [e1]; exact upd_same))))))
  have h2 : H7 l2 = some (.lst (([7, 11, 13] : List Int).map V.int)) := s7 _ _ (s6 _ _ (s5 _ _ (s4 _ _ (s3 _ _ (by rw [e2]; exact upd_same)))))
  have h3 : H7 l3 = some (.lst (([1000] : List Int).map V.int)) := s7 _ _ (s6 _ _ (s5 _ _ (s4 _ _ (by rw [e3]; exact upd_same))))
  have h4 : H7 l4 = some (.lst (([1001] : List Int).map V.int)) := s7 _ _ (s6 _ _ (s5 _ _ (by rw [e4]; exact upd_same)))
  have h5 : H7 l5 = some (.lst (([2, 2, 2, 2, 2, 2] : List Int).map V.int)) := s7 _ _ (s6 _ _ (by rw [e5]; exact upd_same))
  have h6 : H7 l6 = some (.lst (([8, 5, 25] : List Int).map V.int)) := s7 _ _ (by rw [e6]; exact upd_same)
  have h7 : H7 l7 = some (.lst (([3, 3, 3, 2, 2] : List Int).map V.int)) := by rw [e7]; exact upd_same
  have s07 := s1.trans (s2.trans (s3.trans (s4.trans (s5.trans (s6.trans s7)))))
  clear e1 e2 e3 e4 e5 e6 e7 s1 s2 s3 s4 s5 s6 s7 n1 n2 n3 n4 n5 n6 n7
  have pen7 := pen.same s07
  have sL := sameNew nL (.lst [.ref l1, .ref l2, .ref l3, .ref l4, .ref l5, .ref l6, .ref l7])
  have hL := upd_same (H := H7) (a := L) (o := .lst [.ref l1, .ref l2, .ref l3, .ref l4, .ref l5, .ref l6, .ref l7])
  show spPick _ (upd H7 L (.lst [.ref l1, .ref l2, .ref l3, .ref l4, .ref l5, .ref l6, .ref l7])) _ _
  generalize upd H7 L (.lst [.ref l1, .ref l2, .ref l3, .ref l4, .ref l5, .ref l6, .ref l7]) = H8 at sL hL ⊢
  have pen8 := pen7.same sL
  refine .inl ⟨p, c, L, n, _, rfl, pen8, by omega, hL, by simp, by simp, fun x H9 hx pen9 sb9 => ?_⟩
  obtain ⟨l, sz, rfl, hl, hsz⟩ : ∃ (l : Addr) (sz : List Int), x = .ref l ∧ H8 l = some (.lst (sz.map V.int)) ∧ sz ∈ szs := by
    simp only [List.mem_cons, List.not_mem_nil, or_false] at hx
    rcases hx with rfl | rfl | rfl | rfl | rfl | rfl | rfl
    · exact ⟨_, _, rfl, sL _ _ h1, by decide⟩
    · exact ⟨_, _, rfl, sL _ _ h2, by decide⟩
    · exact ⟨_, _, rfl, sL _ _ h3, by decide⟩
    · exact ⟨_, _, rfl, sL _ _ h4, by decide⟩
    · exact ⟨_, _, rfl, sL _ _ h5, by decide⟩
    · exact ⟨_, _, rfl, sL _ _ h6, by decide⟩
    · exact ⟨_, _, rfl, sL _ _ h7, by decide⟩
  clear h1 h2 h3 h4 h5 h6 h7 hx hL
  have sb09 : Sb p H H9 := (Sb.same (s07.trans sL)).trans sb9
  have hl9 := sb9.to (pen8.lstp hl) hl
  clear s07 sL sb9 hl pen7 pen8 nL
  obtain ⟨z1, z2, z3, z4⟩ := szs_ok sz hsz
  clear hsz
  -- the names
  refine ⟨_, rfl, _, rfl, l, _, rfl, .inl (SqL.of hl9), p, c, _, (sz.map V.int).length, rfl, pen9, by omega, by rw [List.length_map]; exact z1, by rw [List.length_map]; omega, fun la ss0 HA penA sbA nla hla hlen0 hok0 hok1 nd0 => ?_⟩
  rw [List.length_map] at hlen0
  refine ⟨la, ss0, rfl, SqL.of hla, by omega, fun ss a perm hsrt na => ?_⟩
  have hlen : ss.length = sz.length := by rw [perm.length_eq]; exact hlen0
  have hok : ∀ z ∈ ss, nmOk z := fun z hz => hok0 z (perm.mem_iff.mp hz)
  have hok8 : ∀ z ∈ ss, 1 ≤ z.length ∧ z.length ≤ 8 := fun z hz => hok1 z (perm.mem_iff.mp hz)
  have ndss : ss.Nodup := perm.nodup_iff.mpr nd0
  have sa := sameNew na (.lst (ss.map V.str))
  have ha := upd_same (H := HA) (a := a) (o := .lst (ss.map V.str))
  generalize upd HA a (.lst (ss.map V.str)) = HB at sa ha ⊢
  have penB := penA.same sa
  have lB := sa _ _ (sbA.to (pen9.lstp hl9) hl9)
  have sb0B := sb09.trans (sbA.trans (Sb.same sa))
  clear perm nd0 hok0 hok1 hlen0 hla nla sa na sb09 sbA hl9
  refine ⟨by show 0 ≤ sizeLine; decide, fun D nD => ⟨by show 0 ≤ sizeLine; decide, fun N nN => ?_⟩⟩
  have Dp := penB.newp nD
  have Dc := penB.newc nD
  have sD := sameNew nD (.lst [])
  have hD := upd_same (H := HB) (a := D) (o := .lst [])
  generalize hHC : upd HB D (.lst []) = HC at sD hD nN ⊢
  have penC' := penB.same sD
  have Np := penC'.newp nN
  have Nc := penC'.newc nN
  have nNB : HB N = none := sD.free nN
  have DN : D ≠ N := fun z => by rw [← z, hD] at nN; cases nN
  have sN := sameNew nN (.lst [])
  have hN := upd_same (H := HC) (a := N) (o := .lst [])
  generalize upd HC N (.lst []) = HE at sN hN ⊢
  have penE := penC'.same sN
  refine ⟨_, _, _, rfl, ?_⟩
  refine ⟨_, rfl, l, _, rfl, .inl (SqL.of (sN _ _ (sD _ _ lB))), _, rfl, by rw [List.length_map]; omega, by rw [List.length_map]; omega, ?_⟩
  have hn : (((sz.map V.int).length : Nat) : Int).toNat = sz.length := by rw [List.length_map]; exact Int.toNat_natCast _
  have lp := penB.lstp lB
  have ap := penB.lstp ha
  refine for_range (n := (((sz.map V.int).length : Nat) : Int).toNat) (fun i σ H2 => ∃ (bs : List Addr) (ds : List PyData) (is : List Int) (v5 v6 v7 : Option V), σ = [some (.ref p), some (.ref l), some (.ref a), some (.ref D), some (.ref N), v5, v6, v7, none, none, none, none] ∧ PenC H2 p c (n + 40 + 4 * i) ∧ Sb p HB H2 ∧ H2 D = some (.lst (bs.map V.ref)) ∧ H2 N = some (.lst (is.map V.int)) ∧ PySem.Paired (DialAt H2) bs ds ∧ ds.map nameOf = ss.take i ∧ (∀ d ∈ ds, DialG d) ∧ PySem.Paired (fun d s => ((spanL d).length : Int) = s) ds (sz.take i) ∧ InBox ds is)
    ⟨[], [], [], none, none, none, rfl, penE.mono (by omega), Sb.same (sD.trans sN), sN _ _ hD, hN, .nil, rfl, fun _ h => absurd h (by simp), .nil, .nil⟩ ?_ ?_
  · rintro i σ H2 hi ⟨bs, ds, is, v5, v6, v7, rfl, pen2, sb2, hD2, hN2, hbs, enm, dgs, sps, box⟩
    rw [hn] at hi
    rw [show (0 : Int) + (i : Nat) = ((i : Nat) : Int) from Int.zero_add _]
    have hz : ss[i]? = some (ss[i]'(by omega)) := List.getElem?_eq_getElem _
    generalize ss[i]'(by omega) = z at hz
    have hs : sz[i]? = some sz[i] := List.getElem?_eq_getElem hi
    generalize sz[i] = s at hs
    obtain ⟨s2', s1001⟩ := z3 s (List.mem_of_getElem? hs)
    refine ⟨_, rfl, p, c, _, _, rfl, pen2, by omega, by decide, by decide, fun v H3 v0 v1 pen3 sb3 => ⟨_, _, rfl, rfl, ?_⟩⟩
    refine ⟨_, rfl, by show 6 ≤ sizeLine; decide, fun e ne => .inl ⟨p, c, e, _, _, rfl, pen3.same (sameNew ne _), by omega, upd_same, by simp, by simp, fun x H4 hx pen4 sb4' => ⟨_, _, rfl, ?_⟩⟩⟩
    obtain ⟨wy, hwy, rfl⟩ : ∃ wy ∈ ways3, x = .str wy := by
      simp only [List.mem_cons, List.not_mem_nil, or_false] at hx
      rcases hx with rfl | rfl | rfl | rfl | rfl | rfl
      · exact ⟨_, (show ("both" : Str) ∈ ways3 by decide +kernel), rfl⟩
      · exact ⟨_, (show ("both" : Str) ∈ ways3 by decide +kernel), rfl⟩
      · exact ⟨_, (show ("both" : Str) ∈ ways3 by decide +kernel), rfl⟩
      · exact ⟨_, (show ("both" : Str) ∈ ways3 by decide +kernel), rfl⟩
      · exact ⟨_, (show ("up" : Str) ∈ ways3 by decide +kernel), rfl⟩
      · exact ⟨_, (show ("down" : Str) ∈ ways3 by decide +kernel), rfl⟩
    have sb24 : Sb p H2 H4 := sb3.trans ((Sb.same (sameNew ne _)).trans sb4')
    clear hx sb3 sb4' ne pen3
    have sbB4 := sb2.trans sb24
    have a4 := sbB4.to ap ha
    have l4 := sbB4.to lp lB
    have D4 := sb24.to Dp hD2
    refine ⟨_, rfl, .inl ⟨rfl, _, SqL.of D4⟩, _, rfl, _, rfl, a, _, _, _, rfl, rfl, SqL.of a4, atStr hz, _, rfl, _, rfl, _, rfl, _, rfl, l, _, _, _, rfl, rfl, SqL.of l4, atInt hs, _, _, rfl, rfl, _, _, rfl, rfl, _, rfl, _, rfl, p, c, _, _, rfl, pen4, by omega, by decide, by decide, fun u H5 u0 u1 pen5 sb5 => ⟨_, _, rfl, rfl, by show 6 ≤ sizeLine; decide, fun T nT => ?_⟩⟩
    have sT := sameNew nT (.tup [.str z, .int (v - 4), .int (v - 4 + s - 1), .str wy, .int 1, .int (1 + u)])
    have hT : upd H5 T (.tup [.str z, .int (v - 4), .int (v - 4 + s - 1), .str wy, .int 1, .int (1 + u)]) T = some (.tup [.str z, .int (v - 4), .int (v - 4 + s - 1), .str wy, .int 1, .int (1 + u)]) := upd_same
    have T5p := pen5.newp nT
    generalize upd H5 T (.tup [.str z, .int (v - 4), .int (v - 4 + s - 1), .str wy, .int 1, .int (1 + u)]) = H6 at sT hT ⊢
    have D6 := sT _ _ (sb5.to Dp D4)
    have pen6 := pen5.same sT
    have sb26 : Sb p H2 H6 := sb24.trans (sb5.trans (Sb.same sT))
    have ldi : ds.length = i := by
      have q := congrArg List.length enm
      rw [List.length_map, List.length_take] at q
      omega
    have lbs := PySem.Paired.length hbs
    have lis := box.len
    refine ⟨D, _, _, rfl, rfl, D6, small1000 (by rw [List.length_map]; omega), ?_⟩
    have hbs6 : PySem.Paired (DialAt H6) bs ds := L2.Paired.mapP hbs fun b d ⟨nm, way, lo, hi, up, dn, e1, e2⟩ => ⟨nm, way, lo, hi, up, dn, e1, sb26.to (pen2.tupp e2) e2⟩
    have N6 := sb26.to Np hN2
    have keep : ∀ {H8 : Hp} {b : Addr} {d : PyData}, DialAt H6 b d → DialAt (upd H6 D (.lst (bs.map V.ref ++ [V.ref T]))) b d := fun {H8 b d} ⟨nm, way, lo, hi, up, dn, e1, e2⟩ => ⟨nm, way, lo, hi, up, dn, e1, by rw [upd_ne (ne_of e2 D6 (by intro z; cases z))]; exact e2⟩
    have ND : N ≠ D := fun z => DN z.symm
    have hN7 : upd H6 D (.lst (bs.map V.ref ++ [V.ref T])) N = some (.lst (is.map V.int)) := by
      rw [upd_ne ND]
      exact N6
    have hbs7 : PySem.Paired (DialAt (upd H6 D (.lst (bs.map V.ref ++ [V.ref T])))) (bs ++ [T]) (ds ++ [.tuple [.str z, .int (v - 4), .int (v - 4 + s - 1), .str wy, .int 1, .int (1 + u)]]) :=
      paired_snoc (L2.Paired.mapP hbs6 fun b d h => keep (H8 := H6) h) (keep (H8 := H6) ⟨z, wy, v - 4, v - 4 + s - 1, 1, 1 + u, rfl, hT⟩)
    have pen7 := pen6.upd Dp Dc (.lst (bs.map V.ref ++ [V.ref T]))
    have hD7 : upd H6 D (.lst (bs.map V.ref ++ [V.ref T])) D = some (.lst ((bs ++ [T]).map V.ref)) := by
      rw [upd_same, List.map_append]
      rfl
    have nDH : HB D = none := nD
    have sb7 : Sb p HB (upd H6 D (.lst (bs.map V.ref ++ [V.ref T]))) := (sb2.trans sb26).new nDH Dp _
    generalize upd H6 D (.lst (bs.map V.ref ++ [V.ref T])) = H7 at hN7 hbs7 pen7 hD7 sb7 ⊢
    refine ⟨_, rfl, .inl ⟨rfl, _, SqL.of hN7⟩, _, rfl, _, rfl, _, rfl, _, rfl, l, _, _, _, rfl, rfl, SqL.of (sb7.to lp lB), atInt hs, p, c, _, s, rfl, pen7, by omega, by omega, by omega, fun y H8 y0 y1 pen8 sb8 => ⟨_, _, rfl, rfl, N, _, _, rfl, rfl, sb8.to Np hN7, small1000 (by rw [List.length_map]; omega), ?_⟩⟩
    have hN8 := sb8.to Np hN7
    refine ⟨bs ++ [T], ds ++ [.tuple [.str z, .int (v - 4), .int (v - 4 + s - 1), .str wy, .int 1, .int (1 + u)]], is ++ [v - 4 + y], _, _, _, rfl, (pen8.upd Np Nc _).mono (by omega), (sb7.trans sb8).new nNB Np _, by rw [upd_ne DN]; exact sb8.to Dp hD7, by rw [upd_same, List.map_append]; rfl, L2.Paired.mapP hbs7 fun b d ⟨nm, way, lo, hi, up, dn, e1, e2⟩ => ⟨nm, way, lo, hi, up, dn, e1, ?_⟩, ?_, fun d hd => ?_, ?_, paired_snoc box ?_⟩
    · rw [List.map_append, enm, take_more hz]
      rfl
    · rcases List.mem_append.mp hd with hd | hd
      · exact dgs d hd
      · rw [List.mem_singleton.mp hd]
        exact ⟨z, wy, v - 4, v - 4 + s - 1, 1, 1 + u, rfl, hok z (List.mem_of_getElem? hz), hok8 z (List.mem_of_getElem? hz), hwy, by omega, by omega, by omega, by decide, by decide, by omega, by omega⟩
    · rw [take_more hs]
      exact paired_snoc sps (span_len (lo := v - 4) (hi := v - 4 + s - 1) rfl rfl (by omega))
    · show v - 4 ≤ v - 4 + y ∧ v - 4 + y ≤ v - 4 + s - 1
      omega
    · have e8 := sb8.to (pen7.tupp e2) e2
      rw [upd_ne (ne_of e8 hN8 (by intro z; cases z))]
      exact e8
  · rintro σ H2 ⟨bs, ds, is, v5, v6, v7, rfl, pen2, sb2, hD2, hN2, hbs, enm, dgs, sps, box⟩
    rw [hn] at enm sps pen2
    rw [← hlen, List.take_length] at enm
    rw [List.take_length] at sps
    have lds : ds.length = ss.length := by rw [← enm, List.length_map]
    have hg : HouseG ds [] := ⟨by omega, by omega, Nat.zero_le _, dgs, (fun r hr => by cases hr), by rw [enm]; exact ndss, fd_none (fun d hd => dial_ok (dgs d hd)) (by rw [enm]; exact hsrt) (by rw [enm]; exact ndss), rfl⟩
    have gd : GoodN ds [] is := (good_free hg).mpr box
    have tab2 : Tabs Ps H2 := tab.sb pen (sb0B.trans sb2)
    refine ⟨_, rfl, D, _, rfl, .inl ⟨SqL.of hD2, fun tb ntb => ⟨by show 0 ≤ sizeLine; decide, fun t0 nt0 => ⟨by show 2 ≤ sizeLine; decide, fun th nth => ?_⟩⟩⟩⟩
    have sA := sameNew ntb (.tup (bs.map V.ref))
    have hA : upd H2 tb (.tup (bs.map V.ref)) tb = some (.tup (bs.map V.ref)) := upd_same
    generalize upd H2 tb (.tup (bs.map V.ref)) = HA2 at sA hA nt0 nth ⊢
    have sB := sameNew nt0 (.tup [])
    have hB : upd HA2 t0 (.tup []) t0 = some (.tup []) := upd_same
    generalize upd HA2 t0 (.tup []) = HB2 at sB hB nth ⊢
    have sC := sameNew nth (.tup [.ref tb, .ref t0])
    have hC : upd HB2 th (.tup [.ref tb, .ref t0]) th = some (.tup [.ref tb, .ref t0]) := upd_same
    generalize upd HB2 th (.tup [.ref tb, .ref t0]) = HC2 at sC hC ⊢
    have s2C := sA.trans (sB.trans sC)
    refine ⟨_, rfl, N, _, rfl, .inl ⟨SqL.of (s2C _ _ hN2), fun ty nty => ⟨by show 2 ≤ sizeLine; decide, fun T nT => ?_⟩⟩⟩
    have sE := sameNew nty (.tup (is.map V.int))
    have hE0 : upd HC2 ty (.tup (is.map V.int)) ty = some (.tup (is.map V.int)) := upd_same
    generalize upd HC2 ty (.tup (is.map V.int)) = HE2 at sE hE0 nT ⊢
    have sF := sameNew nT (.tup [.ref th, .ref ty])
    have hF : upd HE2 T (.tup [.ref th, .ref ty]) T = some (.tup [.ref th, .ref ty]) := upd_same
    generalize upd HE2 T (.tup [.ref th, .ref ty]) = HZ at sF hF ⊢
    refine ⟨T, _, rfl, SqT.of hF, rfl, _, _, rfl, _, _, rfl, rfl, ?_⟩
    have sCZ := sE.trans sF
    have s2Z := s2C.trans sCZ
    have penZ := pen2.same s2Z
    have hyZ := sF _ _ hE0
    have thZ := sCZ _ _ hC
    have tbZ := (sB.trans (sC.trans sCZ)) _ _ hA
    have t0Z := (sC.trans sCZ) _ _ hB
    have out : ∀ {b : Addr} {xs : List V}, HZ b = some (.tup xs) → zn [p] HZ b = some (.tup xs) := fun {b xs} e => by
      rw [zn_out (fun q => penZ.tupp e (List.mem_singleton.mp q))]
      exact e
    have trz : Tr (zn [p] HZ) (.ref th) (.tuple [.tuple ds, .tuple []]) := .tup (.inl (out thZ)) (.cons (.tup (.inl (out tbZ)) (dials_tr (L2.Paired.mapP hbs fun b d ⟨nm, way, lo, hi, up, dn, e1, e2⟩ => ⟨nm, way, lo, hi, up, dn, e1, out (s2Z _ _ e2)⟩))) (.cons (.tup (.inl (out t0Z)) .nil) .nil))
    have tabZ : Tabs Ps HZ := tab2.same s2Z
    clear sA sB sC sE sF hA hB hC hE0 hF s2C sCZ thZ tbZ t0Z out hbs hN2 hD2
    refine ⟨_, rfl, th, ds, [], rfl, ⟨trz.same zn_le, hg⟩, fun i hi => ?_, fun la as HL sL hla pra => ⟨la, rfl, ⟨_, SqL.of hla⟩, fun E nE => lc_list (K := K) (a := la) (xs := as.map V.ref) (fun i H5 => ∃ cs : List Addr, H5 E = some (.lst (cs.map V.ref)) ∧ Same HL H5 ∧ PySem.Paired (NumAt H5) cs (((boxN ds).take i).filter (canB ds is)))
      ⟨[], upd_same, sameNew nE _, .nil⟩ (fun i H5 _ ⟨_, _, s5, _⟩ => SqL.of (s5 _ _ hla)) ?_ ?_⟩⟩
    · have q := box_prod (paired_take i sps)
      have q2 := z4 i (by omega)
      omega
    · rintro i y H5 hy ⟨cs, e5, s5, n5⟩
      rw [List.getElem?_map] at hy
      obtain ⟨b, hb, rfl⟩ := Option.map_eq_some_iff.mp hy
      obtain ⟨js, hjs, hbj⟩ := nums_get pra hb
      have lcs := PySem.Paired.length n5
      have lfl := List.length_filter_le (canB ds is) ((boxN ds).take i)
      rw [List.length_take] at lfl
      have lbx : ((boxN ds).length : Int) = prodI sz := box_prod sps
      have lpz := z4 sz.length (Nat.le_refl _)
      rw [List.take_length] at lpz
      have inb := mem_box.mp (List.mem_of_getElem? hjs)
      have sZ5 := sL.trans s5
      refine ⟨rfl, _, rfl, _, rfl, _, rfl, th, ty, b, ds, [], is, js, rfl, ⟨(trz.same (zn_mono sZ5)).same zn_le, hg⟩, sZ5 _ _ hyZ, s5 _ _ hbj, gd.len, inb.len, fun H6 s6 => ⟨_, rfl, ?_⟩⟩
      have e6 := s6 _ _ e5
      have s56 := s5.trans s6
      rw [take_more hjs, List.filter_append]
      cases cb : canB ds is js with
      | false =>
        rw [List.filter_cons_of_neg (by rw [cb]; exact Bool.false_ne_true), List.filter_nil, List.append_nil]
        exact iteF ⟨cs, e6, s56, nums_same s6 n5⟩
      | true =>
        rw [List.filter_cons_of_pos cb, List.filter_nil]
        refine iteT ⟨_, rfl, _, e6, small5000 (by rw [List.length_map]; omega), cs ++ [b], by rw [upd_same, List.map_append]; rfl, fun c o e => ?_, nums_upd (paired_snoc (nums_same s6 n5) (s56 _ _ hbj)) e6⟩
        rw [upd_ne (ne_of_none e nE)]
        exact s56 _ _ e
    · rintro H6 ⟨cs, hE, s6, prE⟩
      rw [List.length_map, PySem.Paired.length pra, List.take_length] at prE
      have prE : PySem.Paired (NumAt H6) cs (dueF ds is) := prE
      have lcs := PySem.Paired.length prE
      have sZ6 := sL.trans s6
      have pen6 := penZ.same sZ6
      have hy6 := sZ6 _ _ hyZ
      have tab6 := tabZ.same sZ6
      have z24 : n + 40 + 4 * ((sz.length : Nat) : Int) ≤ n + 64 := by omega
      refine ⟨_, rfl, E, _, rfl, .inl (SqL.of hE), _, _, rfl, rfl, _, rfl, ?_⟩
      rw [List.length_map, lcs]
      by_cases c1 : (1000 : Int) < ((dueF ds is).length : Nat)
      · rw [decide_eq_true c1]
        refine iteT ⟨by show 3 ≤ sizeLine; decide, fun W nW => ?_⟩
        have sW := sameNew nW (.tup [.str "wide", .bl true, .bl false])
        have hW : upd H6 W (.tup [.str "wide", .bl true, .bl false]) W = some (.tup [.str "wide", .bl true, .bl false]) := upd_same
        have sZ6 := sZ6.trans sW
        have pen6 := pen6.same sW
        have hy6 := sW _ _ hy6
        have tab6 := tab6.same sW
        generalize upd H6 W (.tup [.str "wide", .bl true, .bl false]) = H6 at sZ6 pen6 hy6 tab6 hW ⊢
        refine ⟨_, rfl, _, rfl, _, rfl, p, c, _, _, rfl, pen6, by omega, by decide, by decide, fun v HT v0 v1 penT sbT => ⟨_, _, rfl, rfl, th, ty, ds, [], is, 1 + v, rfl, ⟨(trz.same ((zn_mono sZ6).trans (zn_sb sbT mp))).same zn_le, hg⟩, sbT.to (pen6.tupp hy6) hy6, gd, by omega, by omega, tab6.sb pen6 sbT, fun fs l9 H9 nd9 ok9 lt9 g9 hl9 => ?_, fun l9 as9 fs9 H9 g9 nl9 hl9 pr9 srt9 nd9 mem9 le9 => ?_⟩⟩
        · refine ⟨_, _, rfl, wide_tr hl9, wide_ok.1, wide_ok.2.1, wide_ok.2.2, _, rfl, .ref W, wideP, rfl, wide_tr (g9.at (tab6.sb pen6 sbT) (sbT.to (pen6.tupp hW) hW) (by intro q z; cases z)), wide_ok.1, wide_ok.2.1, wide_ok.2.2, rfl, ?_⟩
          rw [decide_eq_true rfl]
          exact k _ ((penT.grs (tab6.sb pen6 sbT) g9).mono (by omega)) g9.1
        · exfalso
          have q := nodup_le (dueF_rise ds is).nd fun js hj => (mem9 js).mpr ((mem_dueF hg gd (str := 1 + v) (by omega)).mp hj)
          omega
      · rw [decide_eq_false c1]
        have sh := nums_show hg.dials hg.d2 (fs := dueF ds is) (fun js hj => mem_box.mp (List.mem_filter.mp hj).1) (by omega)
        refine iteF ?_
        refine ⟨_, rfl, _, rfl, _, rfl, p, c, _, _, rfl, pen6, by omega, by decide, by decide, fun v HT v0 v1 penT sbT => ⟨_, _, rfl, rfl, th, ty, ds, [], is, 1 + v, rfl, ⟨(trz.same ((zn_mono sZ6).trans (zn_sb sbT mp))).same zn_le, hg⟩, sbT.to (pen6.tupp hy6) hy6, gd, by omega, by omega, tab6.sb pen6 sbT, fun fs l9 H9 nd9 ok9 lt9 g9 hl9 => ?_, fun l9 as9 fs9 H9 g9 nl9 hl9 pr9 srt9 nd9 mem9 le9 => ?_⟩⟩
        · exfalso
          have q := nodup_le nd9 fun js hj => (mem_dueF hg gd (str := 1 + v) (by omega)).mpr (ok9 js hj)
          omega
        · have e9 : fs9 = dueF ds is := lex_uniq srt9 (dueF_rise ds is).srt nd9 (dueF_rise ds is).nd fun js => (mem9 js).trans (mem_dueF hg gd (by omega)).symm
          rw [e9] at pr9
          have hET := g9.at (tab6.sb pen6 sbT) (sbT.to (pen6.lstp hE) hE) (by intro q z; cases z)
          have prT : PySem.Paired (NumAt H9) cs (dueF ds is) := L2.Paired.mapP prE fun b js e => g9.at (tab6.sb pen6 sbT) (sbT.to (pen6.tupp e) e) (by intro q z; cases z)
          refine ⟨_, _, rfl, nums_tr hl9 pr9, sh.1, sh.2.1, sh.2.2, _, rfl, .ref E, _, rfl, nums_tr hET prT, sh.1, sh.2.1, sh.2.2, rfl, ?_⟩
          rw [decide_eq_true rfl]
          exact k _ ((penT.grs (tab6.sb pen6 sbT) g9).mono (by omega)) g9.1
end
end Pk
end
section
set_option maxHeartbeats 4000000
/-! The law's own: great dials, free or held. -/
namespace Pk
open PySem PySem.Spec PyProof.Rows L2
abbrev sLHeld : Stmt := topH 81
def spLHeld (Ps : List Addr) : Sp := fun vs H Q _ => ∃ (p c : Addr) (n : Int), vs = [.ref p] ∧ PenC H p c n ∧ n ≤ 50000000 ∧ Tabs Ps H ∧ ∀ H', Q (.bl true) H'
section
variable {P : Program} {w : World} {K : PySem.W.Frag} {mg : Str → Option Value} {base : Heap} {Ps : List Addr}
abbrev nLHeld : List Str := ["_law_pen_here", "_law_names_here", "_law_low", "_law_great", "_law_few", "_law_at", "_law_hand", "_law_house_here", "_law_here", "_law_bound", "_law_due", "_law_k"]
theorem scLHeld : FnScope nLHeld ["_law_pen_here"] (defScope sLHeld) := ⟨rfl, rfl, rfl, by decide +kernel, rfl, by decide +kernel, by decide +kernel⟩
theorem ok_lheld {f gD gN gK gT : Addr} {fd dD dN dK dT : FuncData} (F : Fun K "_law_held_right" "_law_held_right" sLHeld f fd) (B : Blt mg)
    (GD : FnOk P w K mg base CX0 1 gD dD ["_law_pen_here", "_law_many"] spDrawC) (bD : Binds K dD ["_law_pen_here", "_law_many"] []) (kD : PySem.W.keepIn K (.ref gD) = true) (mD : mg "_law_draw" = some (.ref gD))
    (GN : FnOk P w K mg base CX0 3 gN dN ["_law_pen_here", "_law_many"] spNames) (bN : Binds K dN ["_law_pen_here", "_law_many"] []) (kN : PySem.W.keepIn K (.ref gN) = true) (mN : mg "_law_names" = some (.ref gN))
    (GK : FnOk P w K mg base CX0 2 gK dK ["_law_pen_here", "_law_some"] spPick) (bK : Binds K dK ["_law_pen_here", "_law_some"] []) (kK : PySem.W.keepIn K (.ref gK) = true) (mK : mg "_law_pick" = some (.ref gK))
    (GT : FnOk P w K mg base CX0 8 gT dT ["_law_house_here", "_law_standing", "_law_strength"] (spLTold Ps)) (bT : Binds K dT ["_law_house_here", "_law_standing", "_law_strength"] []) (kT : PySem.W.keepIn K (.ref gT) = true) (mT : mg "_law_told" = some (.ref gT)) :
    FnG P w K mg base 9 f fd ["_law_pen_here"] (spLHeld Ps) := by
  refine Fun.okG F scLHeld (fun vs H Q E h => ?_) (fun cdv A outer s H vs Q E hgd hr h => ?_)
  · obtain ⟨p, c, n, rfl, _⟩ := h
    rfl
  obtain ⟨p, c, n, rfl, pen, hn, tab, k⟩ := h
  have hr1 : Room 1 _ := hr.mono (by decide)
  have hr2 : Room 2 _ := hr.mono (by decide)
  have hr3 : Room 3 _ := hr.mono (by decide)
  have hu0 := hr.units0
  have hu64 := hr.units
  have h100 : (A.deeper (PyProof.Rows.envOfC "_law_held_right" (defScope sLHeld) s.heap.objs.size f cdv)).units + 100 < cLine := by
    have := hr.un
    omega
  have hgd' : (A.deeper (PyProof.Rows.envOfC "_law_held_right" (defScope sLHeld) s.heap.objs.size f cdv)).guards = some [] := hgd
  refine ⟨_, pss_cons (ps_par (i := 1) (j := 2) (by rfl) scLHeld.nd rfl rfl (by decide) rfl rfl (pa_cons (pe_callB cr_sortedS (by rfl) B.sorted (by decide +kernel) (pa_cons (pe_call GN hr3 rfl mN kN bN .nil pass0 (pa_cons (pv 0) (pa_cons pe_int pa_nil))) pa_nil)) (pa_cons (pe_op op_sub (pe_call GD hr1 rfl mD kD bD .nil pass0 (pa_cons (pv 0) (pa_cons pe_int pa_nil))) pe_int) pa_nil)) (by rfl)) <|
    pss_cons (ps_set (i := 3) scLHeld.nd rfl (.inl rfl) (pe_tup (pa_cons (pe_ix ix_list (pv 1) pe_int (fun _ _ => rfl)) <| pa_cons (pd_neg (pd_pow pe_int pe_int)) <| pa_cons (pe_call GK hr2 rfl mK kK bK .nil pass0 (pa_cons (pv 0) (pa_cons (pe_lst (pa_cons (pd_pow pe_int pe_int) (pa_cons (pd_pow pe_int pe_int) pa_nil))) pa_nil))) <| pa_cons pe_str <| pa_cons pe_int <| pa_cons pe_int pa_nil))) <|
    pss_cons (ps_par3 (i := 4) (j := 5) (l := 6) (by rfl) scLHeld.nd rfl rfl rfl (by decide) (by decide) (by decide) rfl rfl rfl (pa_cons (pe_tup (pa_cons (pe_ix ix_list (pv 1) pe_int (fun _ _ => rfl)) <| pa_cons (pv 2) <| pa_cons (pe_op op_add (pv 2) pe_int) <| pa_cons pe_str <| pa_cons pe_int <| pa_cons pe_int pa_nil)) (pa_cons (pe_op op_add (pv 2) (pe_call GD hr1 rfl mD kD bD .nil pass0 (pa_cons (pv 0) (pa_cons pe_int pa_nil)))) (pa_cons (pe_op op_add pe_int (pe_call GD hr1 rfl mD kD bD .nil pass0 (pa_cons (pv 0) (pa_cons pe_int pa_nil)))) pa_nil))) (by rfl)) <|
    pss_cons (ps_for PassesOwn.never rfl (pi_tup (pe_tup (pa_cons (pe_tup (pa_cons (pe_tup (pa_cons (pe_tup (pa_cons (pv 3) pa_nil)) (pa_cons (pe_tup pa_nil) pa_nil))) (pa_cons (pe_tup (pa_cons (pv 5) pa_nil)) pa_nil))) (pa_cons (pe_tup (pa_cons (pe_tup (pa_cons (pe_tup (pa_cons (pv 3) (pa_cons (pv 4) pa_nil))) (pa_cons (pe_tup pa_nil) pa_nil))) (pa_cons (pe_tup (pa_cons (pv 5) (pa_cons (pv 5) pa_nil))) pa_nil))) pa_nil)))) (pg_tup rfl (pgs_cons (pg_name (i := 7) scLHeld.nd rfl (.inl rfl)) (pgs_cons (pg_name (i := 8) scLHeld.nd rfl (.inl rfl)) pgs_nil)))
      (pss_one (ps_if (pt_cmpR (r := rNeD K) (op_neD hu64) (pe_call GT hr rfl mT kT bT .nil pass0 (pa_cons (pv 7) (pa_cons (pv 8) (pa_cons (pv 6) pa_nil)))) (pe_tup (pa_cons pe_str (pa_cons pe_bl (pa_cons pe_bl pa_nil)))) (nomark _)) (pss_one (ps_ret pe_bl)) pss_nil))) <|
    pss_cons (ps_set (i := 9) scLHeld.nd rfl (.inl rfl) (pe_tup (pa_cons (pe_tup (pa_cons (pv 3) (pa_cons (pv 4) pa_nil))) (pa_cons (pe_tup (pa_cons (pe_tup (pa_cons pe_str <| pa_cons (pe_ix ix_list (pv 1) pe_int (fun _ _ => rfl)) <| pa_cons (pe_ix ix_list (pv 1) pe_int (fun _ _ => rfl)) <| pa_cons pe_int pa_nil)) (pa_cons (pe_tup (pa_cons pe_str <| pa_cons (pe_ix ix_list (pv 1) pe_int (fun _ _ => rfl)) <| pa_cons (pe_ix ix_list (pv 1) pe_int (fun _ _ => rfl)) <| pa_cons pe_int pa_nil)) pa_nil))) pa_nil)))) <|
    pss_cons (ps_set (i := 10) scLHeld.nd rfl (.inl rfl) (pe_ifExp (pt_cmpR op_eq (pv 6) pe_int (nomark _)) (pe_lst (pa_cons (pe_tup (pa_cons (pv 5) (pa_cons (pv 5) pa_nil))) pa_nil)) (pe_lc (own := [("_law_k", 11)]) (g := gName 11) (by rfl) scLHeld.nd (pi_range2 (by rfl) B.range (pa_cons (pv 2) (pa_cons (pe_op op_add (pv 2) pe_int) pa_nil))) (blkOk_by (N := nLHeld) (sc := defScope sLHeld) (by decide +kernel)) (fun _ _ _ _ _ => pg_name (i := 11) scLHeld.nd rfl (Or.inl rfl)) (fun _ _ _ _ _ => pts_nil) (fun _ _ _ _ _ => pe_tup (pa_cons (pv 11) (pa_cons (pv 11) pa_nil)))))) <|
    pss_one (ps_ret (pe_cmpR op_eq (pe_callB (call_reprT hgd' h100) (by rfl) B.repr (by decide +kernel) (pa_cons (pe_call GT hr rfl mT kT bT .nil pass0 (pa_cons (pv 9) (pa_cons (pe_tup (pa_cons (pv 5) (pa_cons (pv 5) pa_nil))) (pa_cons (pv 6) pa_nil)))) pa_nil)) (pe_callB (call_reprT hgd' h100) (by rfl) B.repr (by decide +kernel) (pa_cons (pv 10) pa_nil)) (nomark _))), ?_⟩
  -- PROOF
  have e18 : (10 : Int) ^ (18 : Int).toNat = 1000000000000000000 := by decide +kernel
  have e9 : (10 : Int) ^ (9 : Int).toNat = 1000000000 := by decide +kernel
  have szl := sizeLine_eq
  -- the names
  refine ⟨_, rfl, p, c, n, 2, rfl, pen, by omega, by decide, by decide, fun la ss0 HA penA sbA nla hla hlen0 hok0 hok1 nd0 => ?_⟩
  refine ⟨la, ss0, rfl, SqL.of hla, by omega, fun ss a perm hsrt na => ?_⟩
  have hlen : ss.length = 2 := by rw [perm.length_eq]; exact hlen0
  have hok : ∀ z ∈ ss, nmOk z := fun z hz => hok0 z (perm.mem_iff.mp hz)
  have hok8 : ∀ z ∈ ss, 1 ≤ z.length ∧ z.length ≤ 8 := fun z hz => hok1 z (perm.mem_iff.mp hz)
  have ndss : ss.Nodup := perm.nodup_iff.mpr nd0
  obtain ⟨x, y, rfl⟩ : ∃ x y, ss = [x, y] := by
    match ss, hlen with
    | [x, y], _ => exact ⟨x, y, rfl⟩
  have gx : nmG x := ⟨hok x List.mem_cons_self, hok8 x List.mem_cons_self⟩
  have gy : nmG y := ⟨hok y (List.mem_cons_of_mem _ (List.mem_singleton.mpr rfl)), hok8 y (List.mem_cons_of_mem _ (List.mem_singleton.mpr rfl))⟩
  have ne : x ≠ y := fun e => by
    rw [List.nodup_cons] at ndss
    exact ndss.1 (by rw [e]; exact List.mem_singleton.mpr rfl)
  have sa := sameNew na (.lst ([x, y].map V.str))
  have ha := upd_same (H := HA) (a := a) (o := .lst ([x, y].map V.str))
  generalize upd HA a (.lst ([x, y].map V.str)) = HB at sa ha ⊢
  have penB := penA.same sa
  have sb0B := sbA.trans (Sb.same sa)
  have ap := penB.lstp ha
  clear perm nd0 hok0 hok1 hlen0 hla nla sa na sbA hok hok8 ndss hlen penA
  refine ⟨_, rfl, p, c, _, _, rfl, penB, by omega, by decide, by decide, fun v H2 v0 v1 pen2 sb2 => ⟨_, _, rfl, rfl, _, _, rfl, ?_⟩⟩
  have ha2 := sb2.to ap ha
  -- the great dial
  refine ⟨_, rfl, a, _, _, _, rfl, rfl, SqL.of ha2, (rfl : atI [V.str x, V.str y] 0 = some (.str x)), _, rfl, by show 2 ≤ sizeLine; decide, fun e ne' => .inl ⟨p, c, e, _, _, rfl, pen2.same (sameNew ne' _), by omega, upd_same, by simp, by simp, fun xv H3 hx pen3 sb3' => ⟨by show 6 ≤ sizeLine; decide, fun G nG => ?_⟩⟩⟩
  rw [e18, e9] at hx
  obtain ⟨hi, rfl, hi1, hi2⟩ : ∃ hi : Int, xv = .int hi ∧ 1000000000 ≤ hi ∧ hi ≤ 1000000000000000000 := by
    simp only [List.mem_cons, List.not_mem_nil, or_false] at hx
    rcases hx with rfl | rfl
    · exact ⟨_, rfl, by decide, by decide⟩
    · exact ⟨_, rfl, by decide, by decide⟩
  rw [e18]
  have sb23 : Sb p H2 H3 := (Sb.same (sameNew ne' _)).trans sb3'
  clear hx sb3' ne'
  have ha3 := sb23.to ap ha2
  have sG := sameNew nG (.tup [.str x, .int (-1000000000000000000), .int hi, .str "both", .int 1, .int 1])
  have hG : upd H3 G (.tup [.str x, .int (-1000000000000000000), .int hi, .str "both", .int 1, .int 1]) G = some (.tup [.str x, .int (-1000000000000000000), .int hi, .str "both", .int 1, .int 1]) := upd_same
  generalize upd H3 G (.tup [.str x, .int (-1000000000000000000), .int hi, .str "both", .int 1, .int 1]) = H4 at sG hG ⊢
  have pen4 := pen3.same sG
  have ha4 := sG _ _ ha3
  -- the other one
  refine ⟨_, rfl, a, _, _, _, rfl, rfl, SqL.of ha4, (rfl : atI [V.str x, V.str y] 1 = some (.str y)), _, rfl, _, rfl, _, _, rfl, rfl, by show 6 ≤ sizeLine; decide, fun Fw nF => ?_⟩
  have sF := sameNew nF (.tup [.str y, .int (v - 4), .int (v - 4 + 2), .str "both", .int 1, .int 1])
  have hF : upd H4 Fw (.tup [.str y, .int (v - 4), .int (v - 4 + 2), .str "both", .int 1, .int 1]) Fw = some (.tup [.str y, .int (v - 4), .int (v - 4 + 2), .str "both", .int 1, .int 1]) := upd_same
  generalize upd H4 Fw (.tup [.str y, .int (v - 4), .int (v - 4 + 2), .str "both", .int 1, .int 1]) = H5 at sF hF ⊢
  have pen5 := pen4.same sF
  refine ⟨_, rfl, _, rfl, p, c, _, _, rfl, pen5, by omega, by decide, by decide, fun u H6 u0 u1 pen6 sb6 => ⟨_, _, rfl, rfl, _, rfl, p, c, _, _, rfl, pen6, by omega, by decide, by decide, fun w H7 w0 w1 pen7 sb7 => ⟨_, _, rfl, rfl, _, _, _, rfl, ?_⟩⟩⟩
  have sb57 := sb6.trans sb7
  have ha7 := sb57.to ap (sF _ _ ha4)
  have hG7 := sb57.to (pen5.tupp (sF _ _ hG)) (sF _ _ hG)
  have hF7 := sb57.to (pen5.tupp hF) hF
  have tab7 : Tabs Ps H7 := tab.sb pen (sb0B.trans (sb2.trans (sb23.trans ((Sb.same (sG.trans sF)).trans sb57))))
  have l1 : -4 ≤ (v - 4) := by omega
  have l2 : (v - 4) ≤ 4 := by omega
  have a1 : (v - 4) ≤ (v - 4 + u) := by omega
  have a2 : (v - 4 + u) ≤ (v - 4) + 2 := by omega
  have s1 : 1 ≤ (1 + w) := by omega
  have s3 : (1 + w) ≤ 3 := by omega
  clear sb57 sb6 sb7 pen6 pen7 pen5 hF sF hG sG pen4 ha4 ha3 pen3 sb23 ha2 pen2 sb2 penB sb0B ap ha nG nF
  -- two houses
  refine ⟨_, rfl, by show 1 ≤ sizeLine; decide, fun t1 n1 => ⟨by show 0 ≤ sizeLine; decide, fun t2 n2 => ⟨by show 2 ≤ sizeLine; decide, fun h1 m1 => ⟨_, rfl, by show 1 ≤ sizeLine; decide, fun y1 r1 => ⟨by show 2 ≤ sizeLine; decide, fun T1 q1 => ⟨_, rfl, _, rfl, by show 2 ≤ sizeLine; decide, fun t3 n3 => ⟨by show 0 ≤ sizeLine; decide, fun t4 n4 => ⟨by show 2 ≤ sizeLine; decide, fun h2 m2 => ⟨_, rfl, _, rfl, by show 2 ≤ sizeLine; decide, fun y2 r2 => ⟨by show 2 ≤ sizeLine; decide, fun T2 q2 => ⟨by show 2 ≤ sizeLine; decide, fun TT qT => ?_⟩⟩⟩⟩⟩⟩⟩⟩⟩⟩⟩
  obtain ⟨Ka, eKa⟩ : ∃ Ka, Ka = upd H7 t1 (.tup [.ref G]) := ⟨_, rfl⟩
  rw [← eKa] at n2 m1 r1 q1 n3 n4 m2 r2 q2 qT ⊢
  have sKa : Same H7 Ka := by rw [eKa]; exact sameNew n1 _
  have hKa : Ka t1 = some (.tup [.ref G]) := by rw [eKa]; exact upd_same
  obtain ⟨Kb, eKb⟩ : ∃ Kb, Kb = upd Ka t2 (.tup []) := ⟨_, rfl⟩
  rw [← eKb] at m1 r1 q1 n3 n4 m2 r2 q2 qT ⊢
  have sKb : Same Ka Kb := by rw [eKb]; exact sameNew n2 _
  have hKb : Kb t2 = some (.tup []) := by rw [eKb]; exact upd_same
  obtain ⟨Kc, eKc⟩ : ∃ Kc, Kc = upd Kb h1 (.tup [.ref t1, .ref t2]) := ⟨_, rfl⟩
  rw [← eKc] at r1 q1 n3 n4 m2 r2 q2 qT ⊢
  have sKc : Same Kb Kc := by rw [eKc]; exact sameNew m1 _
  have hKc : Kc h1 = some (.tup [.ref t1, .ref t2]) := by rw [eKc]; exact upd_same
  obtain ⟨Kd, eKd⟩ : ∃ Kd, Kd = upd Kc y1 (.tup [.int (v - 4 + u)]) := ⟨_, rfl⟩
  rw [← eKd] at q1 n3 n4 m2 r2 q2 qT ⊢
  have sKd : Same Kc Kd := by rw [eKd]; exact sameNew r1 _
  have hKd : Kd y1 = some (.tup [.int (v - 4 + u)]) := by rw [eKd]; exact upd_same
  obtain ⟨Ke, eKe⟩ : ∃ Ke, Ke = upd Kd T1 (.tup [.ref h1, .ref y1]) := ⟨_, rfl⟩
  rw [← eKe] at n3 n4 m2 r2 q2 qT ⊢
  have sKe : Same Kd Ke := by rw [eKe]; exact sameNew q1 _
  have hKe : Ke T1 = some (.tup [.ref h1, .ref y1]) := by rw [eKe]; exact upd_same
  obtain ⟨Kf, eKf⟩ : ∃ Kf, Kf = upd Ke t3 (.tup [.ref G, .ref Fw]) := ⟨_, rfl⟩
  rw [← eKf] at n4 m2 r2 q2 qT ⊢
  have sKf : Same Ke Kf := by rw [eKf]; exact sameNew n3 _
  have hKf : Kf t3 = some (.tup [.ref G, .ref Fw]) := by rw [eKf]; exact upd_same
  obtain ⟨Kg, eKg⟩ : ∃ Kg, Kg = upd Kf t4 (.tup []) := ⟨_, rfl⟩
  rw [← eKg] at m2 r2 q2 qT ⊢
  have sKg : Same Kf Kg := by rw [eKg]; exact sameNew n4 _
  have hKg : Kg t4 = some (.tup []) := by rw [eKg]; exact upd_same
  obtain ⟨Kh, eKh⟩ : ∃ Kh, Kh = upd Kg h2 (.tup [.ref t3, .ref t4]) := ⟨_, rfl⟩
  rw [← eKh] at r2 q2 qT ⊢
  have sKh : Same Kg Kh := by rw [eKh]; exact sameNew m2 _
  have hKh : Kh h2 = some (.tup [.ref t3, .ref t4]) := by rw [eKh]; exact upd_same
  obtain ⟨Ki, eKi⟩ : ∃ Ki, Ki = upd Kh y2 (.tup [.int (v - 4 + u), .int (v - 4 + u)]) := ⟨_, rfl⟩
  rw [← eKi] at q2 qT ⊢
  have sKi : Same Kh Ki := by rw [eKi]; exact sameNew r2 _
  have hKi : Ki y2 = some (.tup [.int (v - 4 + u), .int (v - 4 + u)]) := by rw [eKi]; exact upd_same
  obtain ⟨Kj, eKj⟩ : ∃ Kj, Kj = upd Ki T2 (.tup [.ref h2, .ref y2]) := ⟨_, rfl⟩
  rw [← eKj] at qT ⊢
  have sKj : Same Ki Kj := by rw [eKj]; exact sameNew q2 _
  have hKj : Kj T2 = some (.tup [.ref h2, .ref y2]) := by rw [eKj]; exact upd_same
  obtain ⟨Kz, eKz⟩ : ∃ Kz, Kz = upd Kj TT (.tup [.ref T1, .ref T2]) := ⟨_, rfl⟩
  rw [← eKz]
  have sKz : Same Kj Kz := by rw [eKz]; exact sameNew qT _
  have hKz : Kz TT = some (.tup [.ref T1, .ref T2]) := by rw [eKz]; exact upd_same
  have zKa := sKz _ _ (sKj _ _ (sKi _ _ (sKh _ _ (sKg _ _ (sKf _ _ (sKe _ _ (sKd _ _ (sKc _ _ (sKb _ _ (hKa))))))))))
  have zKb := sKz _ _ (sKj _ _ (sKi _ _ (sKh _ _ (sKg _ _ (sKf _ _ (sKe _ _ (sKd _ _ (sKc _ _ (hKb)))))))))
  have zKc := sKz _ _ (sKj _ _ (sKi _ _ (sKh _ _ (sKg _ _ (sKf _ _ (sKe _ _ (sKd _ _ (hKc))))))))
  have zKd := sKz _ _ (sKj _ _ (sKi _ _ (sKh _ _ (sKg _ _ (sKf _ _ (sKe _ _ (hKd)))))))
  have zKe := sKz _ _ (sKj _ _ (sKi _ _ (sKh _ _ (sKg _ _ (sKf _ _ (hKe))))))
  have zKf := sKz _ _ (sKj _ _ (sKi _ _ (sKh _ _ (sKg _ _ (hKf)))))
  have zKg := sKz _ _ (sKj _ _ (sKi _ _ (sKh _ _ (hKg))))
  have zKh := sKz _ _ (sKj _ _ (sKi _ _ (hKh)))
  have zKi := sKz _ _ (sKj _ _ (hKi))
  have zKj := sKz _ _ (hKj)
  have s7z : Same H7 Kz := sKa.trans (sKb.trans (sKc.trans (sKd.trans (sKe.trans (sKf.trans (sKg.trans (sKh.trans (sKi.trans (sKj.trans (sKz))))))))))
  have hGz := s7z _ _ hG7
  have hFz := s7z _ _ hF7
  have haz := s7z _ _ ha7
  have tabz := tab7.same s7z
  have trG : Tr Kz (.ref G) (gDial x hi) := .tup (.inl hGz) (.cons (.str _) (.cons (.int _) (.cons (.int _) (.cons (.str _) (.cons (.int _) (.cons (.int _) .nil))))))
  have trF : Tr Kz (.ref Fw) (fDialF y (v - 4)) := .tup (.inl hFz) (.cons (.str _) (.cons (.int _) (.cons (.int _) (.cons (.str _) (.cons (.int _) (.cons (.int _) .nil))))))
  have tr1 : Tr Kz (.ref h1) (.tuple [.tuple [gDial x hi], .tuple []]) := .tup (.inl zKc) (.cons (.tup (.inl zKa) (.cons trG .nil)) (.cons (.tup (.inl zKb) .nil) .nil))
  have tr2 : Tr Kz (.ref h2) (.tuple [.tuple [gDial x hi, fDialF y (v - 4)], .tuple []]) := .tup (.inl zKh) (.cons (.tup (.inl zKf) (.cons trG (.cons trF .nil))) (.cons (.tup (.inl zKg) .nil) .nil))
  have hy1 : Kz y1 = some (.tup ([(v - 4 + u)].map V.int)) := zKd
  have hy2 : Kz y2 = some (.tup ([(v - 4 + u), (v - 4 + u)].map V.int)) := zKi
  have hg1 := house1 gx hi1 hi2
  have hg2 := house2 gx gy ne hsrt hi1 hi2 l1 l2
  have hg3 := house3 gx gy ne hsrt hi1 hi2 l1 l2
  have box1 : ∀ k : Nat, k ≤ 1000 → InBox [gDial x hi] [(v - 4 + u) - (k : Nat)] := fun k hk => .cons (show -1000000000000000000 ≤ (v - 4 + u) - (k : Nat) ∧ (v - 4 + u) - (k : Nat) ≤ hi by omega) .nil
  have gd1 : GoodN [gDial x hi] [] [(v - 4 + u)] := (good_free hg1).mpr (by have := box1 0 (by omega); rwa [show (v - 4 + u) - ((0 : Nat) : Int) = (v - 4 + u) from by omega] at this)
  have gd2 : GoodN [gDial x hi, fDialF y (v - 4)] [] [(v - 4 + u), (v - 4 + u)] := (good_free hg2).mpr (box2.mpr (by omega))
  have gd3 : GoodN [gDial x hi, fDialF y (v - 4)] [offP x y, offP y x] [(v - 4 + u), (v - 4 + u)] := (good3 gx gy ne hsrt hi1 hi2 l1 l2).mpr (by omega)
  clear eKa eKb eKc eKd eKe eKf eKg eKh eKi eKj eKz sKa sKb sKc sKd sKe sKf sKg sKh sKi sKj sKz hKa hKb hKc hKd hKe hKf hKg hKh hKi hKj zKa zKb zKc zKd zKf zKg zKh zKi n1 n2 m1 r1 q1 n3 n4 m2 r2 q2 qT
  refine ⟨TT, rfl, ⟨_, SqT.of hKz⟩, for_it (walk_tup (xs := [.ref T1, .ref T2])) (fun j σ H9 => ∃ (v7 v8 : Option V), σ = [some (.ref p), some (.ref a), some (.int (v - 4)), some (.ref G), some (.ref Fw), some (.int (v - 4 + u)), some (.int (1 + w)), v7, v8, none, none, none] ∧ GrS Ps Kz H9)
    ⟨none, none, rfl, GrS.refl tabz⟩ (fun j σ H9 _ ⟨_, _, _, g⟩ => SqT.of (g.at tabz hKz (by intro q z; cases z))) ?_ ?_⟩
  · rintro j xx σ H8 H9 hj ⟨v7, v8, rfl, g9⟩ ⟨rfl, hx⟩
    obtain ⟨T, hh, yy, ds, is, L, rfl, hT, trh, hyy, hg, gd, Lnd, Lin, Lw, Ll⟩ : ∃ (T hh yy : Addr) (ds : List PyData) (is : List Int) (L : List (List Int)), xx = .ref T ∧ Kz T = some (.tup [.ref hh, .ref yy]) ∧ Tr Kz (.ref hh) (.tuple [.tuple ds, .tuple []]) ∧ Kz yy = some (.tup (is.map V.int)) ∧ HouseG ds [] ∧ GoodN ds [] is ∧ L.Nodup ∧ (∀ js ∈ L, InBox ds js) ∧ (∀ z ∈ ds.map nameOf, wayOf ds z = "both") ∧ L.length = 1001 := by
      match j, hx with
      | 0, hx =>
        refine ⟨T1, h1, y1, _, _, manyL (v - 4 + u) [], (Option.some.inj hx).symm, zKe, tr1, hy1, hg1, gd1, manyL_nd _ _, fun js hj => ?_, fun z hz => ?_, manyL_len _ _⟩
        · obtain ⟨k, hk, rfl⟩ := mem_manyL hj
          exact box1 k hk
        · rw [List.mem_singleton.mp (show z ∈ [x] from hz)]
          exact way_dial hg1.nd List.mem_cons_self
      | 1, hx =>
        refine ⟨T2, h2, y2, _, _, manyL (v - 4 + u) [(v - 4 + u)], (Option.some.inj hx).symm, zKj, tr2, hy2, hg2, gd2, manyL_nd _ _, fun js hj => ?_, ways2 ne, manyL_len _ _⟩
        obtain ⟨k, hk, rfl⟩ := mem_manyL hj
        exact box2.mpr (by omega)
      | j + 2, hx => simp at hx
    have gat : ∀ {b : Addr} {xs : List V}, Kz b = some (.tup xs) → H9 b = some (.tup xs) := fun e => g9.at tabz e (by intro q z; cases z)
    refine ⟨T, _, rfl, SqT.of (gat hT), rfl, _, _, rfl, _, _, rfl, rfl, ?_⟩
    refine ⟨_, rfl, _, rfl, _, rfl, hh, yy, ds, [], is, (1 + w), rfl, ⟨trh.grs tabz g9, hg⟩, gat hyy, gd, s1, s3, g9.1, fun fs l H10 nd10 ok10 lt10 g10 hl10 => ?_, fun l as fs H10 g10 nl10 hl10 pr10 srt10 nd10 mem10 le10 => ?_⟩
    · refine ⟨by show 3 ≤ sizeLine; decide, fun W nW => ?_⟩
      have sW := sameNew nW (.tup [.str "wide", .bl true, .bl false])
      have hW : upd H10 W (.tup [.str "wide", .bl true, .bl false]) W = some (.tup [.str "wide", .bl true, .bl false]) := upd_same
      generalize upd H10 W (.tup [.str "wide", .bl true, .bl false]) = H11 at sW hW ⊢
      have g11 := (g9.trans g10).trans (GrS.same (g9.trans g10).1 sW)
      exact ⟨wideP, wideP, Tr.dp (wide_tr (sW _ _ hl10)) (noDict_of (by decide +kernel)), Tr.dp (wide_tr hW) (noDict_of (by decide +kernel)), shaped_of (by decide +kernel) (by decide +kernel), shaped_of (by decide +kernel) (by decide +kernel), _, rfl, by rw [show PyData.eqv wideP wideP = true by decide +kernel]; exact iteF ⟨_, _, rfl, g11⟩⟩
    · exfalso
      have := great_many hg gd s1 Lnd Lin Lw mem10
      omega
  · rintro σ H9 ⟨v7, v8, rfl, g9⟩
    have gat : ∀ {b : Addr} {xs : List V}, Kz b = some (.tup xs) → H9 b = some (.tup xs) := fun e => g9.at tabz e (by intro q z; cases z)
    have ha9 := g9.at tabz haz (by intro q z; cases z)
    have tG := trG.grs tabz g9
    have tF := trF.grs tabz g9
    have tab9 : Tabs Ps H9 := g9.1
    refine ⟨_, rfl, _, rfl, by show 2 ≤ sizeLine; decide, fun b1 m1 => ?_⟩
    have sJa := sameNew m1 (.tup [.ref G, .ref Fw])
    have hJa : upd H9 b1 (.tup [.ref G, .ref Fw]) b1 = some (.tup [.ref G, .ref Fw]) := upd_same
    generalize upd H9 b1 (.tup [.ref G, .ref Fw]) = Ja at sJa hJa ⊢
    refine ⟨_, rfl, a, _, _, _, rfl, rfl, SqL.of (sJa _ _ ha9), (rfl : atI [V.str x, V.str y] 0 = some (.str x)), _, rfl, a, _, _, _, rfl, rfl, SqL.of (sJa _ _ ha9), (rfl : atI [V.str x, V.str y] 1 = some (.str y)), by show 4 ≤ sizeLine; decide, fun r1 m2 => ?_⟩
    have sJb := sameNew m2 (.tup [.str "off", .str x, .str y, .int 0])
    have hJb : upd Ja r1 (.tup [.str "off", .str x, .str y, .int 0]) r1 = some (.tup [.str "off", .str x, .str y, .int 0]) := upd_same
    generalize upd Ja r1 (.tup [.str "off", .str x, .str y, .int 0]) = Jb at sJb hJb ⊢
    have sab := sJa.trans sJb
    refine ⟨_, rfl, a, _, _, _, rfl, rfl, SqL.of (sab _ _ ha9), (rfl : atI [V.str x, V.str y] 1 = some (.str y)), _, rfl, a, _, _, _, rfl, rfl, SqL.of (sab _ _ ha9), (rfl : atI [V.str x, V.str y] 0 = some (.str x)), by show 4 ≤ sizeLine; decide, fun r2 m3 => ?_⟩
    have sJc := sameNew m3 (.tup [.str "off", .str y, .str x, .int 0])
    have hJc : upd Jb r2 (.tup [.str "off", .str y, .str x, .int 0]) r2 = some (.tup [.str "off", .str y, .str x, .int 0]) := upd_same
    generalize upd Jb r2 (.tup [.str "off", .str y, .str x, .int 0]) = Jc at sJc hJc ⊢
    refine ⟨by show 2 ≤ sizeLine; decide, fun rr m4 => ?_⟩
    have sJd := sameNew m4 (.tup [.ref r1, .ref r2])
    have hJd : upd Jc rr (.tup [.ref r1, .ref r2]) rr = some (.tup [.ref r1, .ref r2]) := upd_same
    generalize upd Jc rr (.tup [.ref r1, .ref r2]) = Jd at sJd hJd ⊢
    refine ⟨by show 2 ≤ sizeLine; decide, fun bd m5 => ?_⟩
    have sJe := sameNew m5 (.tup [.ref b1, .ref rr])
    have hJe : upd Jd bd (.tup [.ref b1, .ref rr]) bd = some (.tup [.ref b1, .ref rr]) := upd_same
    generalize upd Jd bd (.tup [.ref b1, .ref rr]) = Je at sJe hJe ⊢
    have s9e := sab.trans (sJc.trans (sJd.trans sJe))
    have tr3 : Tr Je (.ref bd) (.tuple [.tuple [gDial x hi, fDialF y (v - 4)], .tuple [offP x y, offP y x]]) := .tup (.inl hJe) (.cons (.tup (.inl (sJe _ _ (sJd _ _ (sJc _ _ (sJb _ _ hJa))))) (.cons (tG.same s9e) (.cons (tF.same s9e) .nil))) (.cons (.tup (.inl (sJe _ _ hJd)) (.cons (.tup (.inl (sJe _ _ (sJd _ _ (sJc _ _ hJb)))) (.cons (.str _) (.cons (.str _) (.cons (.str _) (.cons (.int _) .nil))))) (.cons (.tup (.inl (sJe _ _ (sJd _ _ hJc))) (.cons (.str _) (.cons (.str _) (.cons (.str _) (.cons (.int _) .nil))))) .nil))) .nil))
    have tabe : Tabs Ps Je := tab9.same s9e
    have inb : ∀ js ∈ due3 (v - 4) (v - 4 + u) (1 + w), InBox [gDial x hi, fDialF y (v - 4)] js := fun js hj => by
      obtain ⟨k, rfl, k1, k2, _⟩ := (mem_due3 a1 a2).mp hj
      exact box2.mpr (by omega)
    have dl3 : (due3 (v - 4) (v - 4 + u) (1 + w)).length ≤ 3 := by
      unfold due3
      split
      · exact (show 1 ≤ 3 by decide)
      · exact (show 3 ≤ 3 by decide)
    have sh := nums_show hg3.dials hg3.d2 inb (by omega)
    refine ⟨_, rfl, rfl, _, rfl, ?_⟩
    by_cases hc : (1 + w) = 1
    · rw [show decide (V.int (1 + w) = V.int 1) = true from decide_eq_true (by rw [hc])]
      refine iteT ⟨_, rfl, _, rfl, by show 2 ≤ sizeLine; decide, fun e1 m6 => ⟨by show 1 ≤ sizeLine; decide, fun Ld m7 => ?_⟩⟩
      have s6 := sameNew m6 (.tup [.int (v - 4 + u), .int (v - 4 + u)])
      have h6 : upd Je e1 (.tup [.int (v - 4 + u), .int (v - 4 + u)]) e1 = some (.tup ([(v - 4 + u), (v - 4 + u)].map V.int)) := upd_same
      generalize upd Je e1 (.tup [.int (v - 4 + u), .int (v - 4 + u)]) = Ke at s6 h6 m7 ⊢
      have s7 := sameNew m7 (.lst [.ref e1])
      have hLf : upd Ke Ld (.lst [.ref e1]) Ld = some (.lst (([e1] : List Addr).map V.ref)) := upd_same
      generalize upd Ke Ld (.lst [.ref e1]) = Jf at s7 hLf ⊢
      obtain ⟨cs, ecs⟩ : ∃ cs : List Addr, cs = [e1] := ⟨_, rfl⟩
      have prf : PySem.Paired (NumAt Jf) cs (due3 (v - 4) (v - 4 + u) (1 + w)) := by
        unfold due3
        rw [if_pos hc, ecs]
        exact .cons (s7 _ _ h6) .nil
      rw [← ecs] at hLf
      have sef := s6.trans s7
      have tabf := tabe.same sef
      refine ⟨_, rfl, _, rfl, _, rfl, by show 2 ≤ sizeLine; decide, fun y3 m8 => ?_⟩
      have sY := sameNew m8 (.tup [.int (v - 4 + u), .int (v - 4 + u)])
      have hY : upd Jf y3 (.tup [.int (v - 4 + u), .int (v - 4 + u)]) y3 = some (.tup ([(v - 4 + u), (v - 4 + u)].map V.int)) := upd_same
      have tabY := tabf.same sY
      have trY := (tr3.same sef).same sY
      have prY := nums_same sY prf
      have hLY := sY _ _ hLf
      generalize upd Jf y3 (.tup [.int (v - 4 + u), .int (v - 4 + u)]) = Jg at sY hY tabY trY prY hLY ⊢
      refine ⟨_, rfl, bd, y3, _, _, [(v - 4 + u), (v - 4 + u)], (1 + w), rfl, ⟨trY, hg3⟩, hY, gd3, s1, s3, tabY, fun fs l H10 nd10 ok10 lt10 g10 hl10 => ?_, fun l as fs H10 g10 nl10 hl10 pr10 srt10 nd10 mem10 le10 => ?_⟩
      · exfalso
        have := nodup_le nd10 fun js hj => (mem_due3 (str := (1 + w)) a1 a2).mpr ((rch3 gx gy ne hsrt hi1 hi2 l1 l2 a1 a2 s1).mp (ok10 js hj))
        omega
      · have e10 : fs = due3 (v - 4) (v - 4 + u) (1 + w) := lex_uniq srt10 (due3_rise _ _ _).srt nd10 (due3_rise _ _ _).nd fun js => (mem10 js).trans ((rch3 gx gy ne hsrt hi1 hi2 l1 l2 a1 a2 s1).trans (mem_due3 a1 a2).symm)
        rw [e10] at pr10
        have hET := g10.at tabY hLY (by intro q z; cases z)
        have prT : PySem.Paired (NumAt H10) cs (due3 (v - 4) (v - 4 + u) (1 + w)) := L2.Paired.mapP prY fun b js e => g10.at tabY e (by intro q z; cases z)
        refine ⟨_, _, rfl, nums_tr hl10 pr10, sh.1, sh.2.1, sh.2.2, _, rfl, .ref Ld, _, rfl, nums_tr hET prT, sh.1, sh.2.1, sh.2.2, rfl, ?_⟩
        rw [decide_eq_true rfl]
        exact k _
    · rw [show decide (V.int (1 + w) = V.int 1) = false from decide_eq_false (fun q => hc (V.int.inj q))]
      refine iteF ⟨_, rfl, _, rfl, _, _, rfl, rfl, (v - 4), (v - 4) + 3, rfl, ⟨by omega, by omega, by omega, by omega⟩, fun Ld m7 => ?_⟩
      refine lc_range (lo := (v - 4)) (n := ((v - 4) + 3 - (v - 4)).toNat) (fun m H5 => ∃ cs : List Addr, H5 Ld = some (.lst (cs.map V.ref)) ∧ Same Je H5 ∧ PySem.Paired (NumAt H5) cs ((upI (v - 4) m).map fun k => [k, k]))
        ⟨[], upd_same, sameNew m7 _, .nil⟩ ?_ ?_
      · rintro m H5 hm ⟨cs, e5, s5, n5⟩
        have l5 := PySem.Paired.length n5
        rw [List.length_map, upI_len] at l5
        refine ⟨rfl, _, rfl, _, rfl, by show 2 ≤ sizeLine; decide, fun U nU => ?_⟩
        have sU := sameNew nU (.tup [.int ((v - 4) + (m : Nat)), .int ((v - 4) + (m : Nat))])
        have hU : upd H5 U (.tup [.int ((v - 4) + (m : Nat)), .int ((v - 4) + (m : Nat))]) U = some (.tup ([(v - 4) + (m : Nat), (v - 4) + (m : Nat)].map V.int)) := upd_same
        generalize upd H5 U (.tup [.int ((v - 4) + (m : Nat)), .int ((v - 4) + (m : Nat))]) = H6 at sU hU ⊢
        have e6 := sU _ _ e5
        refine ⟨_, e6, small5000 (by rw [List.length_map]; omega), cs ++ [U], by rw [upd_same, List.map_append]; rfl, fun b o e => ?_, ?_⟩
        · rw [upd_ne (ne_of_none e m7)]
          exact sU _ _ (s5 _ _ e)
        · show PySem.Paired _ _ ((upI (v - 4) m ++ [(v - 4) + (m : Nat)]).map _)
          rw [List.map_append]
          exact nums_upd (paired_snoc (nums_same sU n5) hU) e6
      · rintro Jf ⟨cs, hLf, sef, n5⟩
        have prf : PySem.Paired (NumAt Jf) cs (due3 (v - 4) (v - 4 + u) (1 + w)) := by
          unfold due3
          rw [if_neg hc]
          rw [show ((v - 4) + 3 - (v - 4)).toNat = 3 from by omega] at n5
          have e3 : (upI (v - 4) 3).map (fun k => [k, k]) = [[(v - 4), (v - 4)], [(v - 4) + 1, (v - 4) + 1], [(v - 4) + 2, (v - 4) + 2]] := by
            show [[(v - 4) + 0, (v - 4) + 0], [(v - 4) + 1, (v - 4) + 1], [(v - 4) + 2, (v - 4) + 2]] = _
            rw [Int.add_zero]
          rw [e3] at n5
          exact n5
        have tabf := tabe.same sef
        refine ⟨_, rfl, _, rfl, _, rfl, by show 2 ≤ sizeLine; decide, fun y3 m8 => ?_⟩
        have sY := sameNew m8 (.tup [.int (v - 4 + u), .int (v - 4 + u)])
        have hY : upd Jf y3 (.tup [.int (v - 4 + u), .int (v - 4 + u)]) y3 = some (.tup ([(v - 4 + u), (v - 4 + u)].map V.int)) := upd_same
        have tabY := tabf.same sY
        have trY := (tr3.same sef).same sY
        have prY := nums_same sY prf
        have hLY := sY _ _ hLf
        generalize upd Jf y3 (.tup [.int (v - 4 + u), .int (v - 4 + u)]) = Jg at sY hY tabY trY prY hLY ⊢
        refine ⟨_, rfl, bd, y3, _, _, [(v - 4 + u), (v - 4 + u)], (1 + w), rfl, ⟨trY, hg3⟩, hY, gd3, s1, s3, tabY, fun fs l H10 nd10 ok10 lt10 g10 hl10 => ?_, fun l as fs H10 g10 nl10 hl10 pr10 srt10 nd10 mem10 le10 => ?_⟩
        · exfalso
          have := nodup_le nd10 fun js hj => (mem_due3 (str := (1 + w)) a1 a2).mpr ((rch3 gx gy ne hsrt hi1 hi2 l1 l2 a1 a2 s1).mp (ok10 js hj))
          omega
        · have e10 : fs = due3 (v - 4) (v - 4 + u) (1 + w) := lex_uniq srt10 (due3_rise _ _ _).srt nd10 (due3_rise _ _ _).nd fun js => (mem10 js).trans ((rch3 gx gy ne hsrt hi1 hi2 l1 l2 a1 a2 s1).trans (mem_due3 a1 a2).symm)
          rw [e10] at pr10
          have hET := g10.at tabY hLY (by intro q z; cases z)
          have prT : PySem.Paired (NumAt H10) cs (due3 (v - 4) (v - 4 + u) (1 + w)) := L2.Paired.mapP prY fun b js e => g10.at tabY e (by intro q z; cases z)
          refine ⟨_, _, rfl, nums_tr hl10 pr10, sh.1, sh.2.1, sh.2.2, _, rfl, .ref Ld, _, rfl, nums_tr hET prT, sh.1, sh.2.1, sh.2.2, rfl, ?_⟩
          rw [decide_eq_true rfl]
          exact k _
end
end Pk
end
section
set_option maxHeartbeats 4000000
/-! The law. -/
namespace Pk
open PySem PySem.Spec PyProof.Rows L2
def spLaw (K : PySem.W.Frag) (cs : List (Addr × Addr)) : Sp := fun vs H Q _ => ∃ (a : Addr) (ns : List Int), vs = [.ref a] ∧ SqL K H a (ns.map V.int) ∧ ns.length ≤ 63 ∧ (∀ p ∈ cs, GxR.TabG H p.2) ∧ ∀ H', Q (.bl true) H'
/-- all that the law calls -/
structure Defs (P : Program) (w : World) (K : PySem.W.Frag) (mg : Str → Option Value) (base : Heap) (Ps : List Addr) : Prop where
  pen : ∃ f d, FnOk P w K mg base CX0 1 f d ["_law_script"] (spPenL K) ∧ Binds K d ["_law_script"] [] ∧ PySem.W.keepIn K (.ref f) = true ∧ mg "_law_pen" = some (.ref f)
  draw : ∃ f d, FnOk P w K mg base CX0 1 f d ["_law_pen_here", "_law_many"] spDrawC ∧ Binds K d ["_law_pen_here", "_law_many"] [] ∧ PySem.W.keepIn K (.ref f) = true ∧ mg "_law_draw" = some (.ref f)
  house : ∃ f d, FnOk P w K mg base CX0 6 f d ["_law_pen_here", "_law_many", "_law_wide", "_law_rules"] spHouseL ∧ Binds K d ["_law_pen_here", "_law_many", "_law_wide", "_law_rules"] [] ∧ PySem.W.keepIn K (.ref f) = true ∧ mg "_law_house" = some (.ref f)
  near : ∃ f d, FnOk P w K mg base CX0 4 f d ["_law_house_here", "_law_standing", "_law_strength"] spLNear ∧ Binds K d ["_law_house_here", "_law_standing", "_law_strength"] [] ∧ PySem.W.keepIn K (.ref f) = true ∧ mg "_law_near" = some (.ref f)
  told : ∃ f d, FnOk P w K mg base CX0 8 f d ["_law_house_here", "_law_standing", "_law_strength"] (spLTold Ps) ∧ Binds K d ["_law_house_here", "_law_standing", "_law_strength"] [] ∧ PySem.W.keepIn K (.ref f) = true ∧ mg "_law_told" = some (.ref f)
  wide : ∃ f d, FnG P w K mg base 9 f d ["_law_pen_here"] (spLWide Ps) ∧ Binds K d ["_law_pen_here"] [] ∧ PySem.W.keepIn K (.ref f) = true ∧ mg "_law_wide_right" = some (.ref f)
  held : ∃ f d, FnG P w K mg base 9 f d ["_law_pen_here"] (spLHeld Ps) ∧ Binds K d ["_law_pen_here"] [] ∧ PySem.W.keepIn K (.ref f) = true ∧ mg "_law_held_right" = some (.ref f)
abbrev nLaw : List Str := ["_law_script", "_law_pen_here", "_law_turn", "_law_house_here", "_law_numbers", "_law_kept", "_law_strength", "_law_due", "_law_again", "_law_told_here"]
theorem scLaw : FnScope nLaw ["_law_script"] (defScope sLaw) := ⟨rfl, rfl, rfl, by decide +kernel, rfl, by decide +kernel, by decide +kernel⟩
theorem GrS.mut {Ps : List Addr} {H H' : Hp} {a : Addr} {xs : List V} {o : HO} (g : GrS Ps H H') (n : H a = none) (e : H' a = some (.lst xs)) : GrS Ps H (upd H' a o) := by
  refine ⟨fun P hP => ?_, fun b o' hb q => ?_⟩
  · obtain ⟨ps, h1, h2⟩ := g.1 P hP
    refine ⟨ps, ?_, h2⟩
    rw [upd_ne (ne_of h1 e (by intro z; cases z))]
    exact h1
  · rw [upd_ne (ne_of_none q n)]
    exact g.2 b o' hb q
theorem house_show {ds rs : List PyData} (hg : HouseG ds rs) : (PyData.tuple [.tuple ds, .tuple rs]).showable = true ∧ (PyData.tuple [.tuple ds, .tuple rs]).depth ≤ 60 ∧ (PyData.tuple [.tuple ds, .tuple rs]).shown.length ≤ sizeLine := by
  obtain ⟨a, b, c⟩ := house_lv hg
  exact ⟨(lv_ok (k := 0) (by omega) a (by omega)).2.1, by omega, lv_shown (k := 0) (by omega) a (by omega)⟩
theorem narrow_len {d : PyData} {wd : Int} (h : DialG d) (n : narrow wd d) (w0 : 0 ≤ wd) : (spanL d).length ≤ (wd + 1).toNat := by
  obtain ⟨nm, way, lo, hi, up, dn, rfl, _⟩ := h
  have n' : hi - lo ≤ wd := n
  unfold spanL
  rw [upI_len]
  show (hi + 1 - lo).toNat ≤ _
  omega
/-- the strengths of a turn -/
def tStr : TE := fun σ H Q => ∃ (p c : Addr) (n t : Int), σ[1]? = some (some (.ref p)) ∧ σ[2]? = some (some (.int t)) ∧ PenC H p c n ∧ n ≤ 1000000000 ∧
  ∀ (S : Addr) (ss : List Int) (H' : Hp), (∀ s ∈ ss, 1 ≤ s ∧ s ≤ 3) → PenC H' p c (n + 1) → Sb p H H' → H' S = some (.tup (ss.map V.int)) → Q (.ref S) H'
theorem pe_imp {X : Cx} {a : Expr} {ta tb : TE} (h : PE X a ta) (i : ∀ σ H Q, tb σ H Q → ta σ H Q) : PE X a tb := ⟨fun pins s σ H Q I q => h.run pins s σ H Q I (i _ _ _ q)⟩
section
variable {P : Program} {w : World} {K : PySem.W.Frag} {mg : Str → Option Value} {base : Heap} {Ps : List Addr}
theorem ok_law {f : Addr} {fd : FuncData} {cs : List (Addr × Addr)} (hcs : cs.map (·.2) = Ps) (F : Fun K "law" "law" sLaw f fd) (Z : Defs P w K mg base Ps) (B : Blt mg) : FnG P w K mg base 18 f fd ["_law_script"] (spLaw K cs) := by
  refine Fun.okG F scLaw (fun vs H Q E h => ?_) (fun cdv A outer s H vs Q E hgd hr h => ?_)
  · obtain ⟨a, ns, rfl, _⟩ := h
    rfl
  obtain ⟨a, ns, rfl, hS, hl, htab0, k⟩ := h
  have htab : Tabs Ps H := fun P hP => by
    rw [← hcs] at hP
    obtain ⟨q, hq, rfl⟩ := List.mem_map.mp hP
    exact htab0 q hq
  obtain ⟨fP, dP, GP, bP, kP, mP⟩ := Z.pen
  obtain ⟨fD, dD, GD, bD, kD, mD⟩ := Z.draw
  obtain ⟨fH, dH, GH, bH, kH, mH⟩ := Z.house
  obtain ⟨fN, dN, GN, bN, kN, mN⟩ := Z.near
  obtain ⟨fT, dT, GT, bT, kT, mT⟩ := Z.told
  obtain ⟨fW, dW, GW, bW, kW, mW⟩ := Z.wide
  obtain ⟨fE, dE, GE, bE, kE, mE⟩ := Z.held
  have hr1 : Room 1 _ := hr.mono (by decide)
  have hr4 : Room 4 _ := hr.mono (by decide)
  have hr6 : Room 6 _ := hr.mono (by decide)
  have hr8 : Room 8 _ := hr.mono (by decide)
  have hr9 : Room 9 _ := hr.mono (by decide)
  have hu0 := hr.units0
  have h100 : (A.deeper (PyProof.Rows.envOfC "law" (defScope sLaw) s.heap.objs.size f cdv)).units + 100 < cLine := by
    have := hr.un
    omega
  have hgd' : (A.deeper (PyProof.Rows.envOfC "law" (defScope sLaw) s.heap.objs.size f cdv)).guards = some [] := hgd
  refine ⟨_, pss_cons (ps_set (i := 1) scLaw.nd rfl (.inl rfl) (pe_call GP hr1 rfl mP kP bP .nil pass0 (pa_cons (pv 0) pa_nil))) <|
    pss_cons (ps_for PassesOwn.never rfl (pi_range1 (by rfl) B.range (pa_cons pe_int pa_nil)) (pg_name (i := 2) scLaw.nd rfl (Or.inl rfl))
      (pss_cons (ps_asg (pe_call GH hr6 rfl mH kH bH .nil pass0 (pa_cons (pv 1) (pa_cons (pe_op op_add pe_int (pe_call GD hr1 rfl mD kD bD .nil pass0 (pa_cons (pv 1) (pa_cons (pe_ix ix_list (pe_lst (pa_cons pe_int (pa_cons pe_int (pa_cons pe_int pa_nil)))) (pv 2) (fun _ _ => rfl)) pa_nil)))) (pa_cons (pe_ix ix_list (pe_lst (pa_cons pe_int (pa_cons pe_int (pa_cons pe_int pa_nil)))) (pv 2) (fun _ _ => rfl)) (pa_cons (pe_call GD hr1 rfl mD kD bD .nil pass0 (pa_cons (pv 1) (pa_cons pe_int pa_nil))) pa_nil))))) (pg_tup (by rfl) (pgs_cons (pg_name (i := 3) scLaw.nd rfl (.inl rfl)) <| pgs_cons (pg_name (i := 4) scLaw.nd rfl (.inl rfl)) pgs_nil))) <|
       pss_cons (ps_set (i := 5) scLaw.nd rfl (.inl rfl) (pe_callB (call_reprT hgd' h100) (by rfl) B.repr (by decide +kernel) (pa_cons (pv 3) pa_nil))) <|
       pss_cons (ps_for PassesOwn.never rfl (pi_tup (pe_imp (tb := tStr) (pe_ifExp (pt_cmpR op_gt (pv 2) pe_int (nomark _)) (pe_tup (pa_cons pe_int (pa_cons pe_int (pa_cons pe_int pa_nil)))) (pe_tup (pa_cons (pe_op op_add pe_int (pe_call GD hr1 rfl mD kD bD .nil pass0 (pa_cons (pv 1) (pa_cons pe_int pa_nil)))) pa_nil))) ?str)) (pg_name (i := 6) scLaw.nd rfl (Or.inl rfl))
        (pss_cons (ps_set (i := 7) scLaw.nd rfl (.inl rfl) (pe_call GN hr4 rfl mN kN bN .nil pass0 (pa_cons (pv 3) (pa_cons (pv 4) (pa_cons (pv 6) pa_nil))))) <|
         pss_cons (ps_if (pt_cmpR op_gt (pe_callB call_len_seq (by rfl) B.len PySem.boot_len (pa_cons (pv 7) pa_nil)) pe_int (nomark _)) (pss_one (ps_set (i := 7) scLaw.nd rfl (.inl rfl) (pe_tup (pa_cons pe_str (pa_cons pe_bl (pa_cons pe_bl pa_nil)))))) pss_nil) <|
         pss_one (ps_for PassesOwn.never rfl (pi_range1 (by rfl) B.range (pa_cons pe_int pa_nil)) (pg_name (i := 8) scLaw.nd rfl (Or.inl rfl))
          (pss_cons (ps_set (i := 9) scLaw.nd rfl (.inl rfl) (pe_call GT hr8 rfl mT kT bT .nil pass0 (pa_cons (pv 3) (pa_cons (pv 4) (pa_cons (pv 6) pa_nil))))) <|
           pss_cons (ps_if (pt_cmpR op_ne (pe_callB (call_reprT hgd' h100) (by rfl) B.repr (by decide +kernel) (pa_cons (pv 9) pa_nil)) (pe_callB (call_reprT hgd' h100) (by rfl) B.repr (by decide +kernel) (pa_cons (pv 7) pa_nil)) (nomark _)) (pss_one (ps_ret pe_bl)) pss_nil) <|
           pss_one (ps_if (pt_val (pe_callB call_isT (by rfl) B.isinstance (by decide +kernel) (pa_cons (pv 9) (pa_cons (pe_bltn (v := .ty "list") (by rfl) B.list (by decide +kernel) rfl) pa_nil)))) (pss_one (ps_expr (pe_bm0 PySem.F.plainAttrs_list PySem.F.slot_list_clear PySem.F.type_list_clear mt_clear (pv 9)))) pss_nil))))) <|
       pss_one (ps_if (pt_cmpR op_ne (pe_callB (call_reprT hgd' h100) (by rfl) B.repr (by decide +kernel) (pa_cons (pv 3) pa_nil)) (pv 5) (nomark _)) (pss_one (ps_ret pe_bl)) pss_nil))) <|
    pss_one (ps_ret (pe_and (pe_callG hgd' GW hr9 rfl mW kW bW (pa_cons (pv 1) pa_nil)) (pe_one (pe_callG hgd' GE hr9 rfl mE kE bE (pa_cons (pv 1) pa_nil))))), ?_⟩
  case str =>
    rintro σ H1 Q1 ⟨p, c, n, t, e1, e2, pen, hn, q⟩
    refine ⟨_, e2, _, _, rfl, rfl, _, rfl, ?_⟩
    by_cases ct : (0 : Int) < t
    · rw [decide_eq_true ct]
      refine iteT ⟨by show 3 ≤ sizeLine; decide, fun S nS => ?_⟩
      exact q S [1, 2, 3] _ (by decide) ((pen.same (sameNew nS _)).mono (by omega)) (Sb.same (sameNew nS _)) upd_same
    · rw [decide_eq_false ct]
      refine iteF ⟨_, e1, p, c, n, 3, rfl, pen, hn, by decide, by decide, fun v H2 v0 v1 pen2 sb2 => ⟨_, _, rfl, rfl, by show 1 ≤ sizeLine; decide, fun S nS => ?_⟩⟩
      exact q S [1 + v] _ (fun s hs => by rw [List.mem_singleton.mp hs]; omega) (pen2.same (sameNew nS _)) (sb2.trans (Sb.same (sameNew nS _))) upd_same
  refine ⟨_, rfl, a, ns, rfl, hS, hl, fun p c H1 pen1 s1 => ?_⟩
  have tab1 := htab.same s1
  refine ⟨_, rfl, by decide, by decide, ?_⟩
  refine for_range (n := (3 : Int).toNat) (fun i σ H2 => ∃ (v2 v3 v4 v5 v6 v7 v8 v9 : Option V), σ = [some (.ref a), some (.ref p), v2, v3, v4, v5, v6, v7, v8, v9] ∧ PenC H2 p c (6000 * i) ∧ Tabs Ps H2)
    ⟨_, _, _, _, _, _, _, _, rfl, pen1.mono (by omega), tab1⟩ ?_ ?_
  rotate_left
  · rintro σ H2 ⟨v2, v3, v4, v5, v6, v7, v8, v9, rfl, pen2, tab2⟩
    refine ⟨_, rfl, p, c, _, rfl, pen2, by show 6000 * ((3 : Nat) : Int) ≤ 50000000; decide, tab2, fun H3 pen3 tab3 => ?_⟩
    refine ⟨_, rfl, iteT ⟨_, rfl, p, c, _, rfl, pen3, by show 6000 * ((3 : Nat) : Int) + 500 ≤ 50000000; decide, tab3, fun H4 => k H4⟩⟩
  rintro i σ H2 hi ⟨v2, v3, v4, v5, v6, v7, v8, v9, rfl, pen2, tab2⟩
  have hi3 : i < 3 := hi
  have szl := sizeLine_eq
  refine ⟨_, rfl, _, rfl, by show 3 ≤ sizeLine; decide, fun e he => ?_⟩
  have sA := sameNew he (.lst [.int 2, .int 3, .int 3])
  have hA := upd_same (H := H2) (a := e) (o := .lst [.int 2, .int 3, .int 3])
  generalize upd H2 e (.lst [.int 2, .int 3, .int 3]) = HA at sA hA ⊢
  have penA := pen2.same sA
  obtain ⟨m0, w0, hm0, hw0, m1, m2, hmw⟩ : ∃ m w : Int, ([V.int 2, V.int 3, V.int 3] : List V)[i]? = some (.int m) ∧ ([V.int 10, V.int 3, V.int 3] : List V)[i]? = some (.int w) ∧ 1 ≤ m ∧ m ≤ 3 ∧ ((m = 2 ∧ w = 10) ∨ (m = 3 ∧ w = 3)) := by
    rcases (show i = 0 ∨ i = 1 ∨ i = 2 by omega) with rfl | rfl | rfl
    · exact ⟨2, 10, rfl, rfl, by decide, by decide, by decide⟩
    · exact ⟨3, 3, rfl, rfl, by decide, by decide, by decide⟩
    · exact ⟨3, 3, rfl, rfl, by decide, by decide, by decide⟩
  have hx0 := atV hm0
  have hx1 := atV hw0
  rw [show ((i : Nat) : Int) = 0 + (i : Nat) from (Int.zero_add _).symm] at hx0 hx1
  refine ⟨_, rfl, e, _, _, _, rfl, rfl, SqL.of hA, hx0, p, c, _, m0, rfl, penA, by omega, m1, by omega, fun v H3 w1 w2 pen3 sb3' => ⟨_, _, rfl, rfl, by show 3 ≤ sizeLine; decide, fun e2 he2 => ?_⟩⟩
  have sb3 := (Sb.same (p := p) sA).trans sb3'
  have sB := sameNew he2 (.lst [.int 10, .int 3, .int 3])
  have hB := upd_same (H := H3) (a := e2) (o := .lst [.int 10, .int 3, .int 3])
  generalize upd H3 e2 (.lst [.int 10, .int 3, .int 3]) = HB at sB hB ⊢
  have penB := pen3.same sB
  refine ⟨_, rfl, e2, _, _, _, rfl, rfl, SqL.of hB, hx1, _, rfl, p, c, _, 5, rfl, penB, by omega, by decide, by decide, fun vr H4 r1 r2 pen4 sb4' => ?_⟩
  have sb4 := sb3.trans ((Sb.same sB).trans sb4')
  have em : (1 : Int) + v = (((1 + v).toNat : Nat) : Int) := by omega
  refine ⟨p, c, [p], _, w0, vr, (1 + v).toNat, by rw [← em]; rfl, by omega, by omega, pen4, pen4.al, by omega, by omega, by omega, by omega, by omega, fun t h y ds rs is H6 pen6 sb6' ht tp tr6 hy6 ny li hb hg hsp hru lm nar => ?_⟩
  have sb6 := sb4.trans sb6'
  refine ⟨t, _, rfl, SqT.of ht, rfl, _, _, rfl, _, _, rfl, rfl, ?_⟩
  have tab6 := tab2.sb pen2 sb6
  have gd : GoodN ds rs is := good_of hg li hsp hru
  have bx : (boxN ds).length ≤ 121 := by
    rcases hmw with ⟨rfl, rfl⟩ | ⟨rfl, rfl⟩
    · have q := box_pow (c := 11) (ds := ds) fun d hd => narrow_len (hg.dials d hd) (nar (by decide) d hd) (by decide)
      have l2 : ds.length ≤ 2 := by omega
      exact Nat.le_trans q (Nat.le_trans (Nat.pow_le_pow_right (by decide) l2) (by decide))
    · have q := box_pow (c := 4) (ds := ds) fun d hd => narrow_len (hg.dials d hd) (nar (by decide) d hd) (by decide)
      have l3 : ds.length ≤ 3 := by omega
      exact Nat.le_trans q (Nat.le_trans (Nat.pow_le_pow_right (by decide) l3) (by decide))
  have d3 : ds.length ≤ 3 := by omega
  have sh := house_show hg
  refine ⟨_, rfl, .ref h, _, rfl, tr6.same zn_le, sh.1, sh.2.1, sh.2.2, ?_⟩
  refine ⟨p, c, _, _, rfl, rfl, pen6, by omega, fun S ss H7 hss pen7 sb7 hS7 => ?_⟩
  have tab7 := tab6.sb pen6 sb7
  have trh7 : Tr H7 (.ref h) (.tuple [.tuple ds, .tuple rs]) := (tr6.same (zn_sb sb7 List.mem_cons_self)).same zn_le
  have hy7 := sb7.to (pen6.tupp hy6) hy6
  refine ⟨S, rfl, ⟨_, SqT.of hS7⟩, for_tup (K := K) (a := S) (xs := ss.map V.int) (fun j σ H9 => ∃ (v6 v7 v8 v9 : Option V), σ = [some (.ref a), some (.ref p), some (.int (0 + (i : Nat))), some (.ref h), some (.ref y), some (.str (PyData.tuple [.tuple ds, .tuple rs]).shown), v6, v7, v8, v9] ∧ GrS Ps H7 H9)
    ⟨_, _, _, _, rfl, GrS.refl tab7⟩ (fun j σ H9 _ ⟨_, _, _, _, _, g⟩ => SqT.of (g.at tab7 hS7 (by intro q z; cases z))) ?_ ?_⟩
  · rintro j x σ H9 hx ⟨v6, v7, v8, v9, rfl, g9⟩
    rw [List.getElem?_map] at hx
    obtain ⟨str, hstr, rfl⟩ := Option.map_eq_some_iff.mp hx
    obtain ⟨st1, st3⟩ := hss str (List.mem_of_getElem? hstr)
    have ha9 : HouseAt H9 h ds rs := ⟨trh7.grs tab7 g9, hg⟩
    have hy9 := g9.at tab7 hy7 (by intro q z; cases z)
    refine ⟨_, rfl, _, rfl, _, rfl, h, y, ds, rs, is, str, rfl, ha9, hy9, gd, st1, st3, d3, by omega, fun l as fs HL sL hl pr srt nd mem => ?_⟩
    have gL : GrS Ps H7 HL := g9.trans (GrS.same g9.1 sL)
    have lfs : fs.length ≤ 121 := Nat.le_trans (nodup_le nd fun js hj => (((mem js).mp hj).good gd).box hg) bx
    have las := PySem.Paired.length pr
    refine ⟨_, rfl, l, _, rfl, .inl (SqL.of hl), _, _, rfl, rfl, _, rfl, ?_⟩
    rw [List.length_map, las, decide_eq_false (by omega)]
    refine iteF ?_
    have shf := nums_show hg.dials hg.d2 (fs := fs) (fun js hj => ((good_iff hg).mp (((mem js).mp hj).good gd)).1) (by omega)
    refine ⟨_, rfl, by decide, by decide, ?_⟩
    refine for_range (n := (2 : Int).toNat) (fun m σ HM => ∃ (v8 v9 : Option V), σ = [some (.ref a), some (.ref p), some (.int (0 + (i : Nat))), some (.ref h), some (.ref y), some (.str (PyData.tuple [.tuple ds, .tuple rs]).shown), some (.int str), some (.ref l), v8, v9] ∧ GrS Ps HL HM)
      ⟨_, _, rfl, GrS.refl gL.1⟩ ?_ ?_
    · rintro m σ HM hm ⟨v8, v9, rfl, gM⟩
      have tabL : Tabs Ps HL := gL.1
      have haM : HouseAt HM h ds rs := ⟨trh7.grs tab7 (gL.trans gM), hg⟩
      have hyM := (gL.trans gM).at tab7 hy7 (by intro q z; cases z)
      refine ⟨_, rfl, _, rfl, _, rfl, h, y, ds, rs, is, str, rfl, haM, hyM, gd, st1, st3, gM.1, fun fs2 l2 HT nd2 ok2 lt2 gT hl2 => ?_, fun l2 as2 fs2 HT gT nl2 hl2 pr2 srt2 nd2 mem2 le2 => ?_⟩
      · exfalso
        have := nodup_le nd2 fun js hj => (mem js).mpr (ok2 js hj)
        omega
      · have e2' : fs2 = fs := lex_uniq srt2 srt nd2 nd fun js => (mem2 js).trans (mem js).symm
        rw [e2'] at pr2
        have gMT := gM.trans gT
        have hlT := gMT.at tabL hl (by intro q z; cases z)
        have prT : PySem.Paired (NumAt HT) as fs := L2.Paired.mapP pr fun b js e => gMT.at tabL e (by intro q z; cases z)
        refine ⟨_, rfl, .ref l2, _, rfl, nums_tr hl2 pr2, shf.1, shf.2.1, shf.2.2, _, rfl, .ref l, _, rfl, nums_tr hlT prT, shf.1, shf.2.1, shf.2.2, rfl, _, rfl, ?_⟩
        refine ite2 (fun c => ?_) (fun c => ?_)
        · simp at c
        · refine ⟨_, rfl, .ref l2, "list", _, isLst, rfl, kL, nums_tr hl2 pr2, _, rfl, iteT ⟨_, rfl, .inl ⟨rfl, _, SqL.of hl2⟩, l2, _, rfl, rfl, hl2, ?_⟩⟩
          exact ⟨_, _, rfl, gM.trans (gT.mut nl2 hl2)⟩
    · rintro σ HM ⟨v8, v9, rfl, gM⟩
      exact ⟨_, _, _, _, rfl, gL.trans gM⟩
  · rintro σ H9 ⟨v6, v7, v8, v9, rfl, g9⟩
    refine ⟨_, rfl, .ref h, _, rfl, trh7.grs tab7 g9, sh.1, sh.2.1, sh.2.2, _, rfl, rfl, _, rfl, ?_⟩
    refine ite2 (fun c => ?_) (fun c => ?_)
    · simp at c
    · exact ⟨_, _, _, _, _, _, _, _, rfl, (pen7.grs tab7 g9).mono (by show _ ≤ 6000 * (((i + 1 : Nat)) : Int); omega), g9.1⟩
end
end Pk
end
namespace Pk
open PySem L2
/-- a tuple of texts of the module's own top -/
def strsB (K : PySem.W.Frag) (a : Addr) (zs : List Str) : Bool := match K.lookup a with
  | some ⟨.type "tuple", _, .seq its _, _⟩ => decide (its.size ≤ 1000) && decide (its.toList.map absV = zs.map fun z => some (V.str z))
  | _ => false
theorem vals_abs : ∀ {zs : List Str} {us : List Value}, (us.map absV = zs.map fun z => some (V.str z)) → Vals (zs.map V.str) us
  | [], [], _ => .nil
  | [], _ :: _, h => by simp at h
  | _ :: _, [], h => by simp at h
  | z :: zs, u :: us, h => by
    rw [List.map_cons, List.map_cons, List.cons.injEq] at h
    refine .cons ?_ (vals_abs h.2)
    have h1 := h.1
    cases u with
    | str x t =>
      cases h1
      exact ⟨t, rfl⟩
    | _ => cases h1
theorem strsB_ok {K : PySem.W.Frag} {a : Addr} {zs : List Str} (h : strsB K a zs = true) (H : Hp) : SqT K H a (zs.map V.str) := by
  unfold strsB at h
  split at h
  · rename_i dd its n sl e
    rw [Bool.and_eq_true, decide_eq_true_eq, decide_eq_true_eq] at h
    exact .inr ⟨_, its, n, e, rfl, rfl, small h.1, vals_abs h.2⟩
  · cases h
/-- a def's table of code objects, read -/
theorem tab_in {K : PySem.W.Frag} {x : Str} {f c P : Addr} {oc oc2 : Value} {od od2 : Option Addr} {sl sl2 : Array (Option Value)} {fd : FuncData} {vs : Array Value} (a : PySem.W.nsIn K mainGlobals x = some (some (.ref f)))
    (l : K.lookup f = some ⟨oc, od, .func fd, sl⟩) (hc : fd.code = .ref c) (lc : K.lookup c = some ⟨oc2, od2, .fields vs, sl2⟩) (hv : vs[11]? = some (.ref P)) : PySem.W.tabIn K x = some (c, P) := by
  unfold PySem.W.tabIn
  rw [a]
  simp only
  rw [l]
  simp only
  rw [hc]
  simp only
  rw [lc]
  simp only
  rw [hv]
def excCB (K : PySem.W.Frag) (C : Addr) : Bool :=
  decide (PySem.W.findIn K (.ref C) "__getattribute__" = some (some (.builtin "BaseException.__getattribute__"))) && (decide (PySem.W.findIn K (.ref C) "__getattr__" = some none) && (decide (PySem.W.subIn K (.ref C) (.type "BaseException") = some true) && (PySem.W.hasDictIn K C &&
  (decide (PySem.W.findIn K (.ref C) "__class__" = some (some (.builtin "object.__class__"))) && (decide (PySem.W.specialIn K (.builtin "object.__class__") "__get__" = some (some (.builtin "getset_descriptor.__get__"))) && (decide (PySem.W.takesIn K (.builtin "object.__class__") = some true) && decide (PySem.W.mroIn K C (.type "object") = some true)))))))
theorem excCB_ok {K : PySem.W.Frag} {C : Addr} (h : excCB K C = true) : ExcC K C := by
  simp only [excCB, Bool.and_eq_true, decide_eq_true_eq] at h
  obtain ⟨h1, h2, h3, h4, h5, h6, h7, h8⟩ := h
  exact ⟨h1, h2, h3, h4, h5, h6, h7, h8⟩
/-- all that the walk asks of the classes -/
def clsB (K : PySem.W.Frag) (CL CW CG CS CD fI fB fN : Addr) : Bool :=
  (PySem.W.plainGet K CL Str.empty && (PySem.W.hasDictIn K CL && (PySem.W.plainOver K CL && decide (PySem.W.findIn K (.ref CL) "__setattr__" = some (some (.builtin "object.__setattr__")))))) &&
  ((decide (PySem.W.findIn K (.ref CL) "names" = some none) && (decide (PySem.W.findIn K (.ref CL) "dials" = some none) && (decide (PySem.W.findIn K (.ref CL) "rules" = some none) && decide (PySem.W.findIn K (.ref CL) "speaking" = some none)))) &&
  ((PySem.W.makesIn K CL && (PySem.W.isFn K (.ref fI) && (PySem.W.isFn K (.ref fB) && (PySem.W.isFn K (.ref fN) && PySem.W.keepIn K (.ref CL))))) &&
  ((PySem.W.excIn K CW [.type "ValueError", .type "Exception", .type "BaseException", .type "object"] "ValueError.__new__" && (PySem.W.keepIn K (.ref CW) && (decide (PySem.W.subIn K (.ref CW) (.type "BaseException") = some true) && decide (PySem.W.typeIn K (.ref CW) = some (.type "type"))))) &&
  (excCB K CW && (decide (PySem.W.exmOne K (.ref CW) (.ref CD) = some true) && (decide (PySem.W.kitOne K (.ref CW) (.ref CW) = some true) && (decide (PySem.W.kitAny K (.ref CW) [.ref CG, .ref CS] = some false) && decide (PySem.W.kitOne K (.ref CW) (.type "ValueError") = some true))))))))
set_option maxHeartbeats 4000000 in
theorem all_mk {l : PySem.W.OpenLaw} {q : Program} {w : World} {K : PySem.W.Frag} {h : Heap} {mg : Str → Option Value} {fa cL cW cG cS cD xIsName PIsName xAreN PAreN qW qS qR : Addr} (X : K.In h) (G : h.Ns mainGlobals mg) (hfa : mg "law" = some (.ref fa))
    {fIsName fAreN fWhole fTupOf fPrice fIsDial fIsSaying fIsRule fForm fFDial fFRule fFault fHolds fRuleH fNamesIn fCheckH fBrkR fStands fCheckS fFits fDenies fGBO fGiven fMayGo fHeave fNext fSpread fPen fDraw fPick fShuf fNames fAny fFrom fPriceL fDialL fSayL fTSay fTRule fHouseL fLSaid fLHolds fLNamed fLStands fLAll fLMay fLCan fLBes fLNear fLTold fLWide fLHeld fLaw fInit fByN fNumsOf : Addr} {odIsName anIsName odAreN anAreN odWhole anWhole odTupOf anTupOf odPrice anPrice odIsDial anIsDial odIsSaying anIsSaying odIsRule anIsRule odForm anForm odFDial anFDial odFRule anFRule odFault anFault odHolds anHolds odRuleH anRuleH odNamesIn anNamesIn odCheckH anCheckH odBrkR anBrkR odStands anStands odCheckS anCheckS odFits anFits odDenies anDenies odGBO anGBO odGiven anGiven odMayGo anMayGo odHeave anHeave odNext anNext odSpread anSpread odPen anPen odDraw anDraw odPick anPick odShuf anShuf odNames anNames odAny anAny odFrom anFrom odPriceL anPriceL odDialL anDialL odSayL anSayL odTSay anTSay odTRule anTRule odHouseL anHouseL odLSaid anLSaid odLHolds anLHolds odLNamed anLNamed odLStands anLStands odLAll anLAll odLMay anLMay odLCan anLCan odLBes anLBes odLNear anLNear odLTold anLTold odLWide anLWide odLHeld anLHeld odLaw anLaw odInit anInit odByN anByN odNumsOf anNumsOf : Option Addr} {slIsName slAreN slWhole slTupOf slPrice slIsDial slIsSaying slIsRule slForm slFDial slFRule slFault slHolds slRuleH slNamesIn slCheckH slBrkR slStands slCheckS slFits slDenies slGBO slGiven slMayGo slHeave slNext slSpread slPen slDraw slPick slShuf slNames slAny slFrom slPriceL slDialL slSayL slTSay slTRule slHouseL slLSaid slLHolds slLNamed slLStands slLAll slLMay slLCan slLBes slLNear slLTold slLWide slLHeld slLaw slInit slByN slNumsOf : Array (Option Value)} {t_far t_great t_dear t_long t_dials t_rules t_told t_sprd : Tok}
    {ocIsName kVIsName dcIsName pmIsName ctIsName ocAreN kVAreN dcAreN pmAreN ctAreN ocWhole kVWhole dcWhole pmWhole ctWhole ocTupOf kVTupOf dcTupOf pmTupOf ctTupOf ocPrice kVPrice dcPrice pmPrice ctPrice ocIsDial kVIsDial dcIsDial pmIsDial ctIsDial ocIsSaying kVIsSaying dcIsSaying pmIsSaying ctIsSaying ocIsRule kVIsRule dcIsRule pmIsRule ctIsRule ocForm kVForm dcForm pmForm ctForm ocFDial kVFDial dcFDial pmFDial ctFDial ocFRule kVFRule dcFRule pmFRule ctFRule ocFault kVFault dcFault pmFault ctFault ocHolds kVHolds dcHolds pmHolds ctHolds ocRuleH kVRuleH dcRuleH pmRuleH ctRuleH ocNamesIn kVNamesIn dcNamesIn pmNamesIn ctNamesIn ocCheckH kVCheckH dcCheckH pmCheckH ctCheckH ocBrkR kVBrkR dcBrkR pmBrkR ctBrkR ocStands kVStands dcStands pmStands ctStands ocCheckS kVCheckS dcCheckS pmCheckS ctCheckS ocFits kVFits dcFits pmFits ctFits ocDenies kVDenies dcDenies pmDenies ctDenies ocGBO kVGBO dcGBO pmGBO ctGBO ocGiven kVGiven dcGiven pmGiven ctGiven ocMayGo kVMayGo dcMayGo pmMayGo ctMayGo ocHeave kVHeave dcHeave pmHeave ctHeave ocNext kVNext dcNext pmNext ctNext ocSpread kVSpread dcSpread pmSpread ctSpread ocPen kVPen dcPen pmPen ctPen ocDraw kVDraw dcDraw pmDraw ctDraw ocPick kVPick dcPick pmPick ctPick ocShuf kVShuf dcShuf pmShuf ctShuf ocNames kVNames dcNames pmNames ctNames ocAny kVAny dcAny pmAny ctAny ocFrom kVFrom dcFrom pmFrom ctFrom ocPriceL kVPriceL dcPriceL pmPriceL ctPriceL ocDialL kVDialL dcDialL pmDialL ctDialL ocSayL kVSayL dcSayL pmSayL ctSayL ocTSay kVTSay dcTSay pmTSay ctTSay ocTRule kVTRule dcTRule pmTRule ctTRule ocHouseL kVHouseL dcHouseL pmHouseL ctHouseL ocLSaid kVLSaid dcLSaid pmLSaid ctLSaid ocLHolds kVLHolds dcLHolds pmLHolds ctLHolds ocLNamed kVLNamed dcLNamed pmLNamed ctLNamed ocLStands kVLStands dcLStands pmLStands ctLStands ocLAll kVLAll dcLAll pmLAll ctLAll ocLMay kVLMay dcLMay pmLMay ctLMay ocLCan kVLCan dcLCan pmLCan ctLCan ocLBes kVLBes dcLBes pmLBes ctLBes ocLNear kVLNear dcLNear pmLNear ctLNear ocLTold kVLTold dcLTold pmLTold ctLTold ocLWide kVLWide dcLWide pmLWide ctLWide ocLHeld kVLHeld dcLHeld pmLHeld ctLHeld ocLaw kVLaw dcLaw pmLaw ctLaw ocInit kVInit dcInit pmInit ctInit ocByN kVByN dcByN pmByN ctByN ocNumsOf kVNumsOf dcNumsOf pmNumsOf ctNumsOf cdWhole cdTupOf cdPrice cdIsDial cdIsSaying cdIsRule cdForm cdFDial cdFRule cdFault cdHolds cdRuleH cdNamesIn cdCheckH cdBrkR cdStands cdCheckS cdFits cdDenies cdGBO cdGiven cdMayGo cdHeave cdNext cdSpread cdPen cdDraw cdPick cdShuf cdNames cdAny cdFrom cdPriceL cdDialL cdSayL cdTSay cdTRule cdHouseL cdLSaid cdLHolds cdLNamed cdLStands cdLAll cdLMay cdLCan cdLBes cdLNear cdLTold cdLWide cdLHeld cdLaw cdInit cdByN cdNumsOf : Value}
    (gL : PySem.W.nsIn K mainGlobals "Layout" = some (some (.ref cL)))
    (gW : PySem.W.nsIn K mainGlobals "TooWide" = some (some (.ref cW)))
    (gG : PySem.W.nsIn K mainGlobals "TooLong" = some (some (.ref cG)))
    (gS : PySem.W.nsIn K mainGlobals "TooStrong" = some (some (.ref cS)))
    (gD : PySem.W.nsIn K mainGlobals "DialError" = some (some (.ref cD)))
    (aIsName : PySem.W.nsIn K mainGlobals "is_name" = some (some (.ref fIsName)))
    (lIsName : K.lookup fIsName = some ⟨ocIsName, odIsName, .func (PySem.W.fnOf "is_name" "is_name" (defArgs sIsName) (defBody sIsName) (defScope sIsName) .none kVIsName dcIsName pmIsName anIsName (.ref xIsName) ctIsName), slIsName⟩)
    (cIsName : PySem.W.codeIn K (.ref xIsName) "is_name" = true)
    (kIsName : PySem.W.keepIn K (.ref fIsName) = true)
    (aAreN : PySem.W.nsIn K mainGlobals "are_numbers" = some (some (.ref fAreN)))
    (lAreN : K.lookup fAreN = some ⟨ocAreN, odAreN, .func (PySem.W.fnOf "are_numbers" "are_numbers" (defArgs sAreN) (defBody sAreN) (defScope sAreN) .none kVAreN dcAreN pmAreN anAreN (.ref xAreN) ctAreN), slAreN⟩)
    (cAreN : PySem.W.codeIn K (.ref xAreN) "are_numbers" = true)
    (kAreN : PySem.W.keepIn K (.ref fAreN) = true)
    (aWhole : PySem.W.nsIn K mainGlobals "is_whole" = some (some (.ref fWhole)))
    (lWhole : K.lookup fWhole = some ⟨ocWhole, odWhole, .func (PySem.W.fnOf "is_whole" "is_whole" (defArgs sWhole) (defBody sWhole) (defScope sWhole) .none kVWhole dcWhole pmWhole anWhole cdWhole ctWhole), slWhole⟩)
    (cWhole : PySem.W.codeIn K cdWhole "is_whole" = true)
    (kWhole : PySem.W.keepIn K (.ref fWhole) = true)
    (aTupOf : PySem.W.nsIn K mainGlobals "is_tuple_of" = some (some (.ref fTupOf)))
    (lTupOf : K.lookup fTupOf = some ⟨ocTupOf, odTupOf, .func (PySem.W.fnOf "is_tuple_of" "is_tuple_of" (defArgs sTupOf) (defBody sTupOf) (defScope sTupOf) .none kVTupOf dcTupOf pmTupOf anTupOf cdTupOf ctTupOf), slTupOf⟩)
    (cTupOf : PySem.W.codeIn K cdTupOf "is_tuple_of" = true)
    (kTupOf : PySem.W.keepIn K (.ref fTupOf) = true)
    (aPrice : PySem.W.nsIn K mainGlobals "is_price" = some (some (.ref fPrice)))
    (lPrice : K.lookup fPrice = some ⟨ocPrice, odPrice, .func (PySem.W.fnOf "is_price" "is_price" (defArgs sPrice) (defBody sPrice) (defScope sPrice) .none kVPrice dcPrice pmPrice anPrice cdPrice ctPrice), slPrice⟩)
    (cPrice : PySem.W.codeIn K cdPrice "is_price" = true)
    (kPrice : PySem.W.keepIn K (.ref fPrice) = true)
    (aIsDial : PySem.W.nsIn K mainGlobals "is_dial" = some (some (.ref fIsDial)))
    (lIsDial : K.lookup fIsDial = some ⟨ocIsDial, odIsDial, .func (PySem.W.fnOf "is_dial" "is_dial" (defArgs sIsDial) (defBody sIsDial) (defScope sIsDial) .none kVIsDial dcIsDial pmIsDial anIsDial cdIsDial ctIsDial), slIsDial⟩)
    (cIsDial : PySem.W.codeIn K cdIsDial "is_dial" = true)
    (kIsDial : PySem.W.keepIn K (.ref fIsDial) = true)
    (aIsSaying : PySem.W.nsIn K mainGlobals "is_saying" = some (some (.ref fIsSaying)))
    (lIsSaying : K.lookup fIsSaying = some ⟨ocIsSaying, odIsSaying, .func (PySem.W.fnOf "is_saying" "is_saying" (defArgs sIsSaying) (defBody sIsSaying) (defScope sIsSaying) .none kVIsSaying dcIsSaying pmIsSaying anIsSaying cdIsSaying ctIsSaying), slIsSaying⟩)
    (cIsSaying : PySem.W.codeIn K cdIsSaying "is_saying" = true)
    (kIsSaying : PySem.W.keepIn K (.ref fIsSaying) = true)
    (aIsRule : PySem.W.nsIn K mainGlobals "is_rule" = some (some (.ref fIsRule)))
    (lIsRule : K.lookup fIsRule = some ⟨ocIsRule, odIsRule, .func (PySem.W.fnOf "is_rule" "is_rule" (defArgs sIsRule) (defBody sIsRule) (defScope sIsRule) .none kVIsRule dcIsRule pmIsRule anIsRule cdIsRule ctIsRule), slIsRule⟩)
    (cIsRule : PySem.W.codeIn K cdIsRule "is_rule" = true)
    (kIsRule : PySem.W.keepIn K (.ref fIsRule) = true)
    (aForm : PySem.W.nsIn K mainGlobals "has_house_form" = some (some (.ref fForm)))
    (lForm : K.lookup fForm = some ⟨ocForm, odForm, .func (PySem.W.fnOf "has_house_form" "has_house_form" (defArgs sForm) (defBody sForm) (defScope sForm) .none kVForm dcForm pmForm anForm cdForm ctForm), slForm⟩)
    (cForm : PySem.W.codeIn K cdForm "has_house_form" = true)
    (kForm : PySem.W.keepIn K (.ref fForm) = true)
    (aFDial : PySem.W.nsIn K mainGlobals "faulty_dial" = some (some (.ref fFDial)))
    (lFDial : K.lookup fFDial = some ⟨ocFDial, odFDial, .func (PySem.W.fnOf "faulty_dial" "faulty_dial" (defArgs sFDial) (defBody sFDial) (defScope sFDial) .none kVFDial dcFDial pmFDial anFDial cdFDial ctFDial), slFDial⟩)
    (cFDial : PySem.W.codeIn K cdFDial "faulty_dial" = true)
    (kFDial : PySem.W.keepIn K (.ref fFDial) = true)
    (aFRule : PySem.W.nsIn K mainGlobals "faulty_rule" = some (some (.ref fFRule)))
    (lFRule : K.lookup fFRule = some ⟨ocFRule, odFRule, .func (PySem.W.fnOf "faulty_rule" "faulty_rule" (defArgs sFRule) (defBody sFRule) (defScope sFRule) .none kVFRule dcFRule pmFRule anFRule cdFRule ctFRule), slFRule⟩)
    (cFRule : PySem.W.codeIn K cdFRule "faulty_rule" = true)
    (kFRule : PySem.W.keepIn K (.ref fFRule) = true)
    (aFault : PySem.W.nsIn K mainGlobals "fault_of" = some (some (.ref fFault)))
    (lFault : K.lookup fFault = some ⟨ocFault, odFault, .func (PySem.W.fnOf "fault_of" "fault_of" (defArgs sFault) (defBody sFault) (defScope sFault) .none kVFault dcFault pmFault anFault cdFault ctFault), slFault⟩)
    (cFault : PySem.W.codeIn K cdFault "fault_of" = true)
    (kFault : PySem.W.keepIn K (.ref fFault) = true)
    (aHolds : PySem.W.nsIn K mainGlobals "holds" = some (some (.ref fHolds)))
    (lHolds : K.lookup fHolds = some ⟨ocHolds, odHolds, .func (PySem.W.fnOf "holds" "holds" (defArgs sHolds) (defBody sHolds) (defScope sHolds) .none kVHolds dcHolds pmHolds anHolds cdHolds ctHolds), slHolds⟩)
    (cHolds : PySem.W.codeIn K cdHolds "holds" = true)
    (kHolds : PySem.W.keepIn K (.ref fHolds) = true)
    (aRuleH : PySem.W.nsIn K mainGlobals "rule_holds" = some (some (.ref fRuleH)))
    (lRuleH : K.lookup fRuleH = some ⟨ocRuleH, odRuleH, .func (PySem.W.fnOf "rule_holds" "rule_holds" (defArgs sRuleH) (defBody sRuleH) (defScope sRuleH) .none kVRuleH dcRuleH pmRuleH anRuleH cdRuleH ctRuleH), slRuleH⟩)
    (cRuleH : PySem.W.codeIn K cdRuleH "rule_holds" = true)
    (kRuleH : PySem.W.keepIn K (.ref fRuleH) = true)
    (aNamesIn : PySem.W.nsIn K mainGlobals "names_in" = some (some (.ref fNamesIn)))
    (lNamesIn : K.lookup fNamesIn = some ⟨ocNamesIn, odNamesIn, .func (PySem.W.fnOf "names_in" "names_in" (defArgs sNamesIn) (defBody sNamesIn) (defScope sNamesIn) .none kVNamesIn dcNamesIn pmNamesIn anNamesIn cdNamesIn ctNamesIn), slNamesIn⟩)
    (cNamesIn : PySem.W.codeIn K cdNamesIn "names_in" = true)
    (kNamesIn : PySem.W.keepIn K (.ref fNamesIn) = true)
    (aCheckH : PySem.W.nsIn K mainGlobals "check_house" = some (some (.ref fCheckH)))
    (lCheckH : K.lookup fCheckH = some ⟨ocCheckH, odCheckH, .func (PySem.W.fnOf "check_house" "check_house" (defArgs sCheckH) (defBody sCheckH) (defScope sCheckH) .none kVCheckH dcCheckH pmCheckH anCheckH cdCheckH ctCheckH), slCheckH⟩)
    (cCheckH : PySem.W.codeIn K cdCheckH "check_house" = true)
    (kCheckH : PySem.W.keepIn K (.ref fCheckH) = true)
    (aBrkR : PySem.W.nsIn K mainGlobals "broken_rules" = some (some (.ref fBrkR)))
    (lBrkR : K.lookup fBrkR = some ⟨ocBrkR, odBrkR, .func (PySem.W.fnOf "broken_rules" "broken_rules" (defArgs sBrkR) (defBody sBrkR) (defScope sBrkR) .none kVBrkR dcBrkR pmBrkR anBrkR cdBrkR ctBrkR), slBrkR⟩)
    (cBrkR : PySem.W.codeIn K cdBrkR "broken_rules" = true)
    (kBrkR : PySem.W.keepIn K (.ref fBrkR) = true)
    (aStands : PySem.W.nsIn K mainGlobals "stands" = some (some (.ref fStands)))
    (lStands : K.lookup fStands = some ⟨ocStands, odStands, .func (PySem.W.fnOf "stands" "stands" (defArgs sStands) (defBody sStands) (defScope sStands) .none kVStands dcStands pmStands anStands cdStands ctStands), slStands⟩)
    (cStands : PySem.W.codeIn K cdStands "stands" = true)
    (kStands : PySem.W.keepIn K (.ref fStands) = true)
    (aCheckS : PySem.W.nsIn K mainGlobals "check_standing" = some (some (.ref fCheckS)))
    (lCheckS : K.lookup fCheckS = some ⟨ocCheckS, odCheckS, .func (PySem.W.fnOf "check_standing" "check_standing" (defArgs sCheckS) (defBody sCheckS) (defScope sCheckS) .none kVCheckS dcCheckS pmCheckS anCheckS cdCheckS ctCheckS), slCheckS⟩)
    (cCheckS : PySem.W.codeIn K cdCheckS "check_standing" = true)
    (kCheckS : PySem.W.keepIn K (.ref fCheckS) = true)
    (aFits : PySem.W.nsIn K mainGlobals "fits_none" = some (some (.ref fFits)))
    (lFits : K.lookup fFits = some ⟨ocFits, odFits, .func (PySem.W.fnOf "fits_none" "fits_none" (defArgs sFitsNone) (defBody sFitsNone) (defScope sFitsNone) .none kVFits dcFits pmFits anFits cdFits ctFits), slFits⟩)
    (cFits : PySem.W.codeIn K cdFits "fits_none" = true)
    (kFits : PySem.W.keepIn K (.ref fFits) = true)
    (aDenies : PySem.W.nsIn K mainGlobals "denies" = some (some (.ref fDenies)))
    (lDenies : K.lookup fDenies = some ⟨ocDenies, odDenies, .func (PySem.W.fnOf "denies" "denies" (defArgs sDenies) (defBody sDenies) (defScope sDenies) .none kVDenies dcDenies pmDenies anDenies cdDenies ctDenies), slDenies⟩)
    (cDenies : PySem.W.codeIn K cdDenies "denies" = true)
    (kDenies : PySem.W.keepIn K (.ref fDenies) = true)
    (aGBO : PySem.W.nsIn K mainGlobals "given_by_one" = some (some (.ref fGBO)))
    (lGBO : K.lookup fGBO = some ⟨ocGBO, odGBO, .func (PySem.W.fnOf "given_by_one" "given_by_one" (defArgs sGivenByOne) (defBody sGivenByOne) (defScope sGivenByOne) .none kVGBO dcGBO pmGBO anGBO cdGBO ctGBO), slGBO⟩)
    (cGBO : PySem.W.codeIn K cdGBO "given_by_one" = true)
    (kGBO : PySem.W.keepIn K (.ref fGBO) = true)
    (aGiven : PySem.W.nsIn K mainGlobals "given" = some (some (.ref fGiven)))
    (lGiven : K.lookup fGiven = some ⟨ocGiven, odGiven, .func (PySem.W.fnOf "given" "given" (defArgs sGiven) (defBody sGiven) (defScope sGiven) .none kVGiven dcGiven pmGiven anGiven cdGiven ctGiven), slGiven⟩)
    (cGiven : PySem.W.codeIn K cdGiven "given" = true)
    (kGiven : PySem.W.keepIn K (.ref fGiven) = true)
    (aMayGo : PySem.W.nsIn K mainGlobals "may_go" = some (some (.ref fMayGo)))
    (lMayGo : K.lookup fMayGo = some ⟨ocMayGo, odMayGo, .func (PySem.W.fnOf "may_go" "may_go" (defArgs sMayGo) (defBody sMayGo) (defScope sMayGo) .none kVMayGo dcMayGo pmMayGo anMayGo cdMayGo ctMayGo), slMayGo⟩)
    (cMayGo : PySem.W.codeIn K cdMayGo "may_go" = true)
    (kMayGo : PySem.W.keepIn K (.ref fMayGo) = true)
    (aHeave : PySem.W.nsIn K mainGlobals "least_heave" = some (some (.ref fHeave)))
    (lHeave : K.lookup fHeave = some ⟨ocHeave, odHeave, .func (PySem.W.fnOf "least_heave" "least_heave" (defArgs sHeave) (defBody sHeave) (defScope sHeave) .none kVHeave dcHeave pmHeave anHeave cdHeave ctHeave), slHeave⟩)
    (cHeave : PySem.W.codeIn K cdHeave "least_heave" = true)
    (kHeave : PySem.W.keepIn K (.ref fHeave) = true)
    (aNext : PySem.W.nsIn K mainGlobals "next_standings" = some (some (.ref fNext)))
    (lNext : K.lookup fNext = some ⟨ocNext, odNext, .func (PySem.W.fnOf "next_standings" "next_standings" (defArgs sNext) (defBody sNext) (defScope sNext) .none kVNext dcNext pmNext anNext cdNext ctNext), slNext⟩)
    (cNext : PySem.W.codeIn K cdNext "next_standings" = true)
    (kNext : PySem.W.keepIn K (.ref fNext) = true)
    (aSpread : PySem.W.nsIn K mainGlobals "spread" = some (some (.ref fSpread)))
    (lSpread : K.lookup fSpread = some ⟨ocSpread, odSpread, .func (PySem.W.fnOf "spread" "spread" (defArgs sSpread) (defBody sSpread) (defScope sSpread) .none kVSpread dcSpread pmSpread anSpread cdSpread ctSpread), slSpread⟩)
    (cSpread : PySem.W.codeIn K cdSpread "spread" = true)
    (kSpread : PySem.W.keepIn K (.ref fSpread) = true)
    (aPen : PySem.W.nsIn K mainGlobals "_law_pen" = some (some (.ref fPen)))
    (lPen : K.lookup fPen = some ⟨ocPen, odPen, .func (PySem.W.fnOf "_law_pen" "_law_pen" (defArgs sPen) (defBody sPen) (defScope sPen) .none kVPen dcPen pmPen anPen cdPen ctPen), slPen⟩)
    (cPen : PySem.W.codeIn K cdPen "_law_pen" = true)
    (kPen : PySem.W.keepIn K (.ref fPen) = true)
    (aDraw : PySem.W.nsIn K mainGlobals "_law_draw" = some (some (.ref fDraw)))
    (lDraw : K.lookup fDraw = some ⟨ocDraw, odDraw, .func (PySem.W.fnOf "_law_draw" "_law_draw" (defArgs sDraw) (defBody sDraw) (defScope sDraw) .none kVDraw dcDraw pmDraw anDraw cdDraw ctDraw), slDraw⟩)
    (cDraw : PySem.W.codeIn K cdDraw "_law_draw" = true)
    (kDraw : PySem.W.keepIn K (.ref fDraw) = true)
    (aPick : PySem.W.nsIn K mainGlobals "_law_pick" = some (some (.ref fPick)))
    (lPick : K.lookup fPick = some ⟨ocPick, odPick, .func (PySem.W.fnOf "_law_pick" "_law_pick" (defArgs sPick) (defBody sPick) (defScope sPick) .none kVPick dcPick pmPick anPick cdPick ctPick), slPick⟩)
    (cPick : PySem.W.codeIn K cdPick "_law_pick" = true)
    (kPick : PySem.W.keepIn K (.ref fPick) = true)
    (aShuf : PySem.W.nsIn K mainGlobals "_law_shuffled" = some (some (.ref fShuf)))
    (lShuf : K.lookup fShuf = some ⟨ocShuf, odShuf, .func (PySem.W.fnOf "_law_shuffled" "_law_shuffled" (defArgs sShuf) (defBody sShuf) (defScope sShuf) .none kVShuf dcShuf pmShuf anShuf cdShuf ctShuf), slShuf⟩)
    (cShuf : PySem.W.codeIn K cdShuf "_law_shuffled" = true)
    (kShuf : PySem.W.keepIn K (.ref fShuf) = true)
    (aNames : PySem.W.nsIn K mainGlobals "_law_names" = some (some (.ref fNames)))
    (lNames : K.lookup fNames = some ⟨ocNames, odNames, .func (PySem.W.fnOf "_law_names" "_law_names" (defArgs sNames) (defBody sNames) (defScope sNames) .none kVNames dcNames pmNames anNames cdNames ctNames), slNames⟩)
    (cNames : PySem.W.codeIn K cdNames "_law_names" = true)
    (kNames : PySem.W.keepIn K (.ref fNames) = true)
    (aAny : PySem.W.nsIn K mainGlobals "_law_any" = some (some (.ref fAny)))
    (lAny : K.lookup fAny = some ⟨ocAny, odAny, .func (PySem.W.fnOf "_law_any" "_law_any" (defArgs sAny) (defBody sAny) (defScope sAny) .none kVAny dcAny pmAny anAny cdAny ctAny), slAny⟩)
    (cAny : PySem.W.codeIn K cdAny "_law_any" = true)
    (kAny : PySem.W.keepIn K (.ref fAny) = true)
    (aFrom : PySem.W.nsIn K mainGlobals "_law_from" = some (some (.ref fFrom)))
    (lFrom : K.lookup fFrom = some ⟨ocFrom, odFrom, .func (PySem.W.fnOf "_law_from" "_law_from" (defArgs sFrom) (defBody sFrom) (defScope sFrom) .none kVFrom dcFrom pmFrom anFrom cdFrom ctFrom), slFrom⟩)
    (cFrom : PySem.W.codeIn K cdFrom "_law_from" = true)
    (kFrom : PySem.W.keepIn K (.ref fFrom) = true)
    (aPriceL : PySem.W.nsIn K mainGlobals "_law_price" = some (some (.ref fPriceL)))
    (lPriceL : K.lookup fPriceL = some ⟨ocPriceL, odPriceL, .func (PySem.W.fnOf "_law_price" "_law_price" (defArgs sPriceL) (defBody sPriceL) (defScope sPriceL) .none kVPriceL dcPriceL pmPriceL anPriceL cdPriceL ctPriceL), slPriceL⟩)
    (cPriceL : PySem.W.codeIn K cdPriceL "_law_price" = true)
    (kPriceL : PySem.W.keepIn K (.ref fPriceL) = true)
    (aDialL : PySem.W.nsIn K mainGlobals "_law_dial" = some (some (.ref fDialL)))
    (lDialL : K.lookup fDialL = some ⟨ocDialL, odDialL, .func (PySem.W.fnOf "_law_dial" "_law_dial" (defArgs sDial) (defBody sDial) (defScope sDial) .none kVDialL dcDialL pmDialL anDialL cdDialL ctDialL), slDialL⟩)
    (cDialL : PySem.W.codeIn K cdDialL "_law_dial" = true)
    (kDialL : PySem.W.keepIn K (.ref fDialL) = true)
    (aSayL : PySem.W.nsIn K mainGlobals "_law_saying" = some (some (.ref fSayL)))
    (lSayL : K.lookup fSayL = some ⟨ocSayL, odSayL, .func (PySem.W.fnOf "_law_saying" "_law_saying" (defArgs sSay) (defBody sSay) (defScope sSay) .none kVSayL dcSayL pmSayL anSayL cdSayL ctSayL), slSayL⟩)
    (cSayL : PySem.W.codeIn K cdSayL "_law_saying" = true)
    (kSayL : PySem.W.keepIn K (.ref fSayL) = true)
    (aTSay : PySem.W.nsIn K mainGlobals "_law_true_saying" = some (some (.ref fTSay)))
    (lTSay : K.lookup fTSay = some ⟨ocTSay, odTSay, .func (PySem.W.fnOf "_law_true_saying" "_law_true_saying" (defArgs sTSay) (defBody sTSay) (defScope sTSay) .none kVTSay dcTSay pmTSay anTSay cdTSay ctTSay), slTSay⟩)
    (cTSay : PySem.W.codeIn K cdTSay "_law_true_saying" = true)
    (kTSay : PySem.W.keepIn K (.ref fTSay) = true)
    (aTRule : PySem.W.nsIn K mainGlobals "_law_true_rule" = some (some (.ref fTRule)))
    (lTRule : K.lookup fTRule = some ⟨ocTRule, odTRule, .func (PySem.W.fnOf "_law_true_rule" "_law_true_rule" (defArgs sTRule) (defBody sTRule) (defScope sTRule) .none kVTRule dcTRule pmTRule anTRule cdTRule ctTRule), slTRule⟩)
    (cTRule : PySem.W.codeIn K cdTRule "_law_true_rule" = true)
    (kTRule : PySem.W.keepIn K (.ref fTRule) = true)
    (aHouseL : PySem.W.nsIn K mainGlobals "_law_house" = some (some (.ref fHouseL)))
    (lHouseL : K.lookup fHouseL = some ⟨ocHouseL, odHouseL, .func (PySem.W.fnOf "_law_house" "_law_house" (defArgs sHouseL) (defBody sHouseL) (defScope sHouseL) .none kVHouseL dcHouseL pmHouseL anHouseL cdHouseL ctHouseL), slHouseL⟩)
    (cHouseL : PySem.W.codeIn K cdHouseL "_law_house" = true)
    (kHouseL : PySem.W.keepIn K (.ref fHouseL) = true)
    (aLSaid : PySem.W.nsIn K mainGlobals "_law_said" = some (some (.ref fLSaid)))
    (lLSaid : K.lookup fLSaid = some ⟨ocLSaid, odLSaid, .func (PySem.W.fnOf "_law_said" "_law_said" (defArgs sLSaid) (defBody sLSaid) (defScope sLSaid) .none kVLSaid dcLSaid pmLSaid anLSaid cdLSaid ctLSaid), slLSaid⟩)
    (cLSaid : PySem.W.codeIn K cdLSaid "_law_said" = true)
    (kLSaid : PySem.W.keepIn K (.ref fLSaid) = true)
    (aLHolds : PySem.W.nsIn K mainGlobals "_law_holds" = some (some (.ref fLHolds)))
    (lLHolds : K.lookup fLHolds = some ⟨ocLHolds, odLHolds, .func (PySem.W.fnOf "_law_holds" "_law_holds" (defArgs sLHolds) (defBody sLHolds) (defScope sLHolds) .none kVLHolds dcLHolds pmLHolds anLHolds cdLHolds ctLHolds), slLHolds⟩)
    (cLHolds : PySem.W.codeIn K cdLHolds "_law_holds" = true)
    (kLHolds : PySem.W.keepIn K (.ref fLHolds) = true)
    (aLNamed : PySem.W.nsIn K mainGlobals "_law_named" = some (some (.ref fLNamed)))
    (lLNamed : K.lookup fLNamed = some ⟨ocLNamed, odLNamed, .func (PySem.W.fnOf "_law_named" "_law_named" (defArgs sLNamed) (defBody sLNamed) (defScope sLNamed) .none kVLNamed dcLNamed pmLNamed anLNamed cdLNamed ctLNamed), slLNamed⟩)
    (cLNamed : PySem.W.codeIn K cdLNamed "_law_named" = true)
    (kLNamed : PySem.W.keepIn K (.ref fLNamed) = true)
    (aLStands : PySem.W.nsIn K mainGlobals "_law_stands" = some (some (.ref fLStands)))
    (lLStands : K.lookup fLStands = some ⟨ocLStands, odLStands, .func (PySem.W.fnOf "_law_stands" "_law_stands" (defArgs sLStands) (defBody sLStands) (defScope sLStands) .none kVLStands dcLStands pmLStands anLStands cdLStands ctLStands), slLStands⟩)
    (cLStands : PySem.W.codeIn K cdLStands "_law_stands" = true)
    (kLStands : PySem.W.keepIn K (.ref fLStands) = true)
    (aLAll : PySem.W.nsIn K mainGlobals "_law_all" = some (some (.ref fLAll)))
    (lLAll : K.lookup fLAll = some ⟨ocLAll, odLAll, .func (PySem.W.fnOf "_law_all" "_law_all" (defArgs sLAll) (defBody sLAll) (defScope sLAll) .none kVLAll dcLAll pmLAll anLAll cdLAll ctLAll), slLAll⟩)
    (cLAll : PySem.W.codeIn K cdLAll "_law_all" = true)
    (kLAll : PySem.W.keepIn K (.ref fLAll) = true)
    (aLMay : PySem.W.nsIn K mainGlobals "_law_may" = some (some (.ref fLMay)))
    (lLMay : K.lookup fLMay = some ⟨ocLMay, odLMay, .func (PySem.W.fnOf "_law_may" "_law_may" (defArgs sLMay) (defBody sLMay) (defScope sLMay) .none kVLMay dcLMay pmLMay anLMay cdLMay ctLMay), slLMay⟩)
    (cLMay : PySem.W.codeIn K cdLMay "_law_may" = true)
    (kLMay : PySem.W.keepIn K (.ref fLMay) = true)
    (aLCan : PySem.W.nsIn K mainGlobals "_law_can" = some (some (.ref fLCan)))
    (lLCan : K.lookup fLCan = some ⟨ocLCan, odLCan, .func (PySem.W.fnOf "_law_can" "_law_can" (defArgs sLCan) (defBody sLCan) (defScope sLCan) .none kVLCan dcLCan pmLCan anLCan cdLCan ctLCan), slLCan⟩)
    (cLCan : PySem.W.codeIn K cdLCan "_law_can" = true)
    (kLCan : PySem.W.keepIn K (.ref fLCan) = true)
    (aLBes : PySem.W.nsIn K mainGlobals "_law_beside" = some (some (.ref fLBes)))
    (lLBes : K.lookup fLBes = some ⟨ocLBes, odLBes, .func (PySem.W.fnOf "_law_beside" "_law_beside" (defArgs sLBes) (defBody sLBes) (defScope sLBes) .none kVLBes dcLBes pmLBes anLBes cdLBes ctLBes), slLBes⟩)
    (cLBes : PySem.W.codeIn K cdLBes "_law_beside" = true)
    (kLBes : PySem.W.keepIn K (.ref fLBes) = true)
    (aLNear : PySem.W.nsIn K mainGlobals "_law_near" = some (some (.ref fLNear)))
    (lLNear : K.lookup fLNear = some ⟨ocLNear, odLNear, .func (PySem.W.fnOf "_law_near" "_law_near" (defArgs sLNear) (defBody sLNear) (defScope sLNear) .none kVLNear dcLNear pmLNear anLNear cdLNear ctLNear), slLNear⟩)
    (cLNear : PySem.W.codeIn K cdLNear "_law_near" = true)
    (kLNear : PySem.W.keepIn K (.ref fLNear) = true)
    (aLTold : PySem.W.nsIn K mainGlobals "_law_told" = some (some (.ref fLTold)))
    (lLTold : K.lookup fLTold = some ⟨ocLTold, odLTold, .func (PySem.W.fnOf "_law_told" "_law_told" (defArgs sLTold6) (defBody sLTold6) (defScope sLTold6) .none kVLTold dcLTold pmLTold anLTold cdLTold ctLTold), slLTold⟩)
    (cLTold : PySem.W.codeIn K cdLTold "_law_told" = true)
    (kLTold : PySem.W.keepIn K (.ref fLTold) = true)
    (aLWide : PySem.W.nsIn K mainGlobals "_law_wide_right" = some (some (.ref fLWide)))
    (lLWide : K.lookup fLWide = some ⟨ocLWide, odLWide, .func (PySem.W.fnOf "_law_wide_right" "_law_wide_right" (defArgs sLWide) (defBody sLWide) (defScope sLWide) .none kVLWide dcLWide pmLWide anLWide cdLWide ctLWide), slLWide⟩)
    (cLWide : PySem.W.codeIn K cdLWide "_law_wide_right" = true)
    (kLWide : PySem.W.keepIn K (.ref fLWide) = true)
    (aLHeld : PySem.W.nsIn K mainGlobals "_law_held_right" = some (some (.ref fLHeld)))
    (lLHeld : K.lookup fLHeld = some ⟨ocLHeld, odLHeld, .func (PySem.W.fnOf "_law_held_right" "_law_held_right" (defArgs sLHeld) (defBody sLHeld) (defScope sLHeld) .none kVLHeld dcLHeld pmLHeld anLHeld cdLHeld ctLHeld), slLHeld⟩)
    (cLHeld : PySem.W.codeIn K cdLHeld "_law_held_right" = true)
    (kLHeld : PySem.W.keepIn K (.ref fLHeld) = true)
    (aLaw : PySem.W.nsIn K mainGlobals "law" = some (some (.ref fLaw)))
    (lLaw : K.lookup fLaw = some ⟨ocLaw, odLaw, .func (PySem.W.fnOf "law" "law" (defArgs sLaw) (defBody sLaw) (defScope sLaw) .none kVLaw dcLaw pmLaw anLaw cdLaw ctLaw), slLaw⟩)
    (cLaw : PySem.W.codeIn K cdLaw "law" = true)
    (kLaw : PySem.W.keepIn K (.ref fLaw) = true)
    (aInit : PySem.W.findIn K (.ref cL) "__init__" = some (some (.ref fInit)))
    (lInit : K.lookup fInit = some ⟨ocInit, odInit, .func (PySem.W.fnOf "__init__" "Layout.__init__" (defArgs sInit) (defBody sInit) (defScope sInit) .none kVInit dcInit pmInit anInit cdInit ctInit), slInit⟩)
    (cInit : PySem.W.codeIn K cdInit "Layout.__init__" = true)
    (kInit : PySem.W.keepIn K (.ref fInit) = true)
    (aByN : PySem.W.findIn K (.ref cL) "by_names" = some (some (.ref fByN)))
    (lByN : K.lookup fByN = some ⟨ocByN, odByN, .func (PySem.W.fnOf "by_names" "Layout.by_names" (defArgs sByN) (defBody sByN) (defScope sByN) .none kVByN dcByN pmByN anByN cdByN ctByN), slByN⟩)
    (cByN : PySem.W.codeIn K cdByN "Layout.by_names" = true)
    (kByN : PySem.W.keepIn K (.ref fByN) = true)
    (aNumsOf : PySem.W.findIn K (.ref cL) "numbers_of" = some (some (.ref fNumsOf)))
    (lNumsOf : K.lookup fNumsOf = some ⟨ocNumsOf, odNumsOf, .func (PySem.W.fnOf "numbers_of" "Layout.numbers_of" (defArgs sNumsOf) (defBody sNumsOf) (defScope sNumsOf) .none kVNumsOf dcNumsOf pmNumsOf anNumsOf cdNumsOf ctNumsOf), slNumsOf⟩)
    (cNumsOf : PySem.W.codeIn K cdNumsOf "Layout.numbers_of" = true)
    (kNumsOf : PySem.W.keepIn K (.ref fNumsOf) = true)
    (y_far : PySem.W.nsIn K mainGlobals "FARTHEST" = some (some (.int 1000000000000000000 t_far)))
    (y_great : PySem.W.nsIn K mainGlobals "GREATEST" = some (some (.int 100000000000000000000 t_great)))
    (y_dear : PySem.W.nsIn K mainGlobals "DEAREST" = some (some (.int 1000000 t_dear)))
    (y_long : PySem.W.nsIn K mainGlobals "LONGEST_NAME" = some (some (.int 8 t_long)))
    (y_dials : PySem.W.nsIn K mainGlobals "MOST_DIALS" = some (some (.int 12 t_dials)))
    (y_rules : PySem.W.nsIn K mainGlobals "MOST_RULES" = some (some (.int 40 t_rules)))
    (y_told : PySem.W.nsIn K mainGlobals "MOST_TOLD" = some (some (.int 1000 t_told)))
    (y_sprd : PySem.W.nsIn K mainGlobals "GREATEST_SPREAD" = some (some (.int 3 t_sprd)))
    (y_W : PySem.W.nsIn K mainGlobals "WAYS" = some (some (.ref qW)))
    (y_S : PySem.W.nsIn K mainGlobals "SORTS" = some (some (.ref qS)))
    (y_R : PySem.W.nsIn K mainGlobals "PAIR_RULES" = some (some (.ref qR)))
    (z_isinstance : PySem.W.nsIn K mainGlobals "isinstance" = some none)
    (z_bool : PySem.W.nsIn K mainGlobals "bool" = some none)
    (z_int : PySem.W.nsIn K mainGlobals "int" = some none)
    (z_str : PySem.W.nsIn K mainGlobals "str" = some none)
    (z_tuple : PySem.W.nsIn K mainGlobals "tuple" = some none)
    (z_list : PySem.W.nsIn K mainGlobals "list" = some none)
    (z_len : PySem.W.nsIn K mainGlobals "len" = some none)
    (z_all : PySem.W.nsIn K mainGlobals "all" = some none)
    (z_enumerate : PySem.W.nsIn K mainGlobals "enumerate" = some none)
    (z_abs : PySem.W.nsIn K mainGlobals "abs" = some none)
    (z_dict : PySem.W.nsIn K mainGlobals "dict" = some none)
    (z_range : PySem.W.nsIn K mainGlobals "range" = some none)
    (z_repr : PySem.W.nsIn K mainGlobals "repr" = some none)
    (z_sorted : PySem.W.nsIn K mainGlobals "sorted" = some none)
    (z_min : PySem.W.nsIn K mainGlobals "min" = some none)
    (z_max : PySem.W.nsIn K mainGlobals "max" = some none)
    (z_zip : PySem.W.nsIn K mainGlobals "zip" = some none)
    (z_ValueError : PySem.W.nsIn K mainGlobals "ValueError" = some none)
    (hTIsName : PySem.W.tabIn K "is_name" = some (xIsName, PIsName))
    (hPIsName : K.lookup PIsName = none)
    (hrIsName : ((PyProof.Rows.recsOf q).find? (fun e => e.name == ("is_name" : Str))).isSome = true)
    (hTAreN : PySem.W.tabIn K "are_numbers" = some (xAreN, PAreN))
    (hPAreN : K.lookup PAreN = none)
    (hrAreN : ((PyProof.Rows.recsOf q).find? (fun e => e.name == ("are_numbers" : Str))).isSome = true)
    (hchk : (strsB K qW ways3 && (strsB K qS sorts2 && strsB K qR pairs3)) = true)
    (hcls : clsB K cL cW cG cS cD fInit fByN fNumsOf = true)
    : ∃ (fd : FuncData) (cs : List (Addr × Addr)), (∀ p ∈ cs, ∃ (y : Str) (dr : PySem.DefRec), (PyProof.Rows.recsOf q).find? (fun e => e.name == y) = some dr ∧ PySem.W.tabIn K y = some p ∧ K.lookup p.2 = none) ∧
      (∀ (s : Shared) (u : Value), BindsTo s fd ⟨[u], []⟩ [("_law_script", u)]) ∧ ∀ bs : Heap, K.In bs → bs.Ns mainGlobals mg → (∀ p ∈ cs, GxR.TabB bs mg p.1 p.2) → FnG l.prog w K mg bs 18 fa fd ["_law_script"] (spLaw K cs) := by
  have e := hfa.symm.trans (PySem.W.mg_of X G aLaw)
  cases e
  obtain ⟨dr1, hdr1⟩ := Option.isSome_iff_exists.mp hrIsName
  obtain ⟨dr2, hdr2⟩ := Option.isSome_iff_exists.mp hrAreN
  rw [Bool.and_eq_true, Bool.and_eq_true] at hchk
  simp only [clsB, Bool.and_eq_true, decide_eq_true_eq] at hcls
  obtain ⟨⟨u1, u2, u3, u4⟩, ⟨u5, u6, u7, u8⟩, ⟨u9, u10, u11, u11b, u12⟩, ⟨u13, u14, u15, u16⟩, u17, u18, u19, u20, u21⟩ := hcls
  have BH : BltH mg := ⟨PySem.W.mg_none_of X G z_isinstance, PySem.W.mg_none_of X G z_bool, PySem.W.mg_none_of X G z_int, PySem.W.mg_none_of X G z_str, PySem.W.mg_none_of X G z_tuple, PySem.W.mg_none_of X G z_list, PySem.W.mg_none_of X G z_len, PySem.W.mg_none_of X G z_all, PySem.W.mg_none_of X G z_enumerate⟩
  have B : Blt mg := ⟨PySem.W.mg_none_of X G z_len, PySem.W.mg_none_of X G z_abs, PySem.W.mg_none_of X G z_list, PySem.W.mg_none_of X G z_tuple, PySem.W.mg_none_of X G z_dict, PySem.W.mg_none_of X G z_isinstance, PySem.W.mg_none_of X G z_range, PySem.W.mg_none_of X G z_repr, PySem.W.mg_none_of X G z_sorted, PySem.W.mg_none_of X G z_min, PySem.W.mg_none_of X G z_max, PySem.W.mg_none_of X G z_int, PySem.W.mg_none_of X G z_str⟩
  have C : Cons K mg qW qS qR := ⟨⟨_, PySem.W.mg_of X G y_far⟩, ⟨_, PySem.W.mg_of X G y_great⟩, ⟨_, PySem.W.mg_of X G y_dear⟩, ⟨_, PySem.W.mg_of X G y_long⟩, ⟨_, PySem.W.mg_of X G y_dials⟩, ⟨_, PySem.W.mg_of X G y_rules⟩, PySem.W.mg_of X G y_W, PySem.W.mg_of X G y_S, PySem.W.mg_of X G y_R, strsB_ok hchk.1, strsB_ok hchk.2.1, strsB_ok hchk.2.2⟩
  have mz := PySem.W.mg_none_of X G z_zip
  have T : LayTxt K mg cL := ⟨⟨u1, u2, u3, u4⟩, u5, u6, u7, u8, PySem.W.mg_of X G gL⟩
  have R : RefTxt K mg "TooWide" cW := ⟨u13, PySem.W.mg_of X G gW, u14, u15, u16⟩
  have CT : ClsTxt6 K mg cW cG cS cD := ⟨PySem.W.mg_of X G gW, PySem.W.mg_of X G gG, PySem.W.mg_of X G gS, PySem.W.mg_of X G gD, PySem.W.mg_none_of X G z_ValueError, excCB_ok u17, u18, u19, u20, u21⟩
  have M : Mk K cL fInit := ⟨u9, aInit, u10, u12⟩
  have MB : Meth K cL "by_names" fByN := ⟨aByN, u11, kByN⟩
  have MN : Meth K cL "numbers_of" fNumsOf := ⟨aNumsOf, u11b, kNumsOf⟩
  have FIsName := fun_mk (st := sIsName) lIsName cIsName kIsName
  have mIsName := PySem.W.mg_of X G aIsName
  have bIsName := FIsName.binds (ps := ["thing"]) fun _ _ _ _ _ _ us hl => match us, hl with | [_], _ => rfl
  have FAreN := fun_mk (st := sAreN) lAreN cAreN kAreN
  have mAreN := PySem.W.mg_of X G aAreN
  have bAreN := FAreN.binds (ps := ["house", "thing"]) fun _ _ _ _ _ _ us hl => match us, hl with | [_, _], _ => rfl
  have FWhole := fun_mk (st := sWhole) lWhole cWhole kWhole
  have mWhole := PySem.W.mg_of X G aWhole
  have bWhole := FWhole.binds (ps := ["thing", "low", "high"]) fun _ _ _ _ _ _ us hl => match us, hl with | [_, _, _], _ => rfl
  have FTupOf := fun_mk (st := sTupOf) lTupOf cTupOf kTupOf
  have mTupOf := PySem.W.mg_of X G aTupOf
  have bTupOf := FTupOf.binds (ps := ["thing", "least", "most"]) fun _ _ _ _ _ _ us hl => match us, hl with | [_, _, _], _ => rfl
  have FPrice := fun_mk (st := sPrice) lPrice cPrice kPrice
  have mPrice := PySem.W.mg_of X G aPrice
  have bPrice := FPrice.binds (ps := ["thing"]) fun _ _ _ _ _ _ us hl => match us, hl with | [_], _ => rfl
  have FIsDial := fun_mk (st := sIsDial) lIsDial cIsDial kIsDial
  have mIsDial := PySem.W.mg_of X G aIsDial
  have bIsDial := FIsDial.binds (ps := ["thing"]) fun _ _ _ _ _ _ us hl => match us, hl with | [_], _ => rfl
  have FIsSaying := fun_mk (st := sIsSaying) lIsSaying cIsSaying kIsSaying
  have mIsSaying := PySem.W.mg_of X G aIsSaying
  have bIsSaying := FIsSaying.binds (ps := ["names", "thing"]) fun _ _ _ _ _ _ us hl => match us, hl with | [_, _], _ => rfl
  have FIsRule := fun_mk (st := sIsRule) lIsRule cIsRule kIsRule
  have mIsRule := PySem.W.mg_of X G aIsRule
  have bIsRule := FIsRule.binds (ps := ["names", "thing"]) fun _ _ _ _ _ _ us hl => match us, hl with | [_, _], _ => rfl
  have FForm := fun_mk (st := sForm) lForm cForm kForm
  have mForm := PySem.W.mg_of X G aForm
  have bForm := FForm.binds (ps := ["thing"]) fun _ _ _ _ _ _ us hl => match us, hl with | [_], _ => rfl
  have FFDial := fun_mk (st := sFDial) lFDial cFDial kFDial
  have mFDial := PySem.W.mg_of X G aFDial
  have bFDial := FFDial.binds (ps := ["dials"]) fun _ _ _ _ _ _ us hl => match us, hl with | [_], _ => rfl
  have FFRule := fun_mk (st := sFRule) lFRule cFRule kFRule
  have mFRule := PySem.W.mg_of X G aFRule
  have bFRule := FFRule.binds (ps := ["names", "rules"]) fun _ _ _ _ _ _ us hl => match us, hl with | [_, _], _ => rfl
  have FFault := fun_mk (st := sFault) lFault cFault kFault
  have mFault := PySem.W.mg_of X G aFault
  have bFault := FFault.binds (ps := ["thing"]) fun _ _ _ _ _ _ us hl => match us, hl with | [_], _ => rfl
  have FHolds := fun_mk (st := sHolds) lHolds cHolds kHolds
  have mHolds := PySem.W.mg_of X G aHolds
  have bHolds := FHolds.binds (ps := ["saying", "now"]) fun _ _ _ _ _ _ us hl => match us, hl with | [_, _], _ => rfl
  have FRuleH := fun_mk (st := sRuleH) lRuleH cRuleH kRuleH
  have mRuleH := PySem.W.mg_of X G aRuleH
  have bRuleH := FRuleH.binds (ps := ["rule", "now"]) fun _ _ _ _ _ _ us hl => match us, hl with | [_, _], _ => rfl
  have FNamesIn := fun_mk (st := sNamesIn) lNamesIn cNamesIn kNamesIn
  have mNamesIn := PySem.W.mg_of X G aNamesIn
  have bNamesIn := FNamesIn.binds (ps := ["rule"]) fun _ _ _ _ _ _ us hl => match us, hl with | [_], _ => rfl
  have FCheckH := fun_mk (st := sCheckH) lCheckH cCheckH kCheckH
  have mCheckH := PySem.W.mg_of X G aCheckH
  have bCheckH := FCheckH.binds (ps := ["house"]) fun _ _ _ _ _ _ us hl => match us, hl with | [_], _ => rfl
  have FBrkR := fun_mk (st := sBrkR) lBrkR cBrkR kBrkR
  have mBrkR := PySem.W.mg_of X G aBrkR
  have bBrkR := FBrkR.binds (ps := ["house", "numbers"]) fun _ _ _ _ _ _ us hl => match us, hl with | [_, _], _ => rfl
  have FStands := fun_mk (st := sStands) lStands cStands kStands
  have mStands := PySem.W.mg_of X G aStands
  have bStands := FStands.binds (ps := ["house", "thing"]) fun _ _ _ _ _ _ us hl => match us, hl with | [_, _], _ => rfl
  have FCheckS := fun_mk (st := sCheckS) lCheckS cCheckS kCheckS
  have mCheckS := PySem.W.mg_of X G aCheckS
  have bCheckS := FCheckS.binds (ps := ["house", "standing"]) fun _ _ _ _ _ _ us hl => match us, hl with | [_, _], _ => rfl
  have FFits := fun_mk (st := sFitsNone) lFits cFits kFits
  have mFits := PySem.W.mg_of X G aFits
  have bFits := FFits.binds (ps := ["layout", "saying"]) fun _ _ _ _ _ _ us hl => match us, hl with | [_, _], _ => rfl
  have FDenies := fun_mk (st := sDenies) lDenies cDenies kDenies
  have mDenies := PySem.W.mg_of X G aDenies
  have bDenies := FDenies.binds (ps := ["layout", "saying", "other"]) fun _ _ _ _ _ _ us hl => match us, hl with | [_, _, _], _ => rfl
  have FGBO := fun_mk (st := sGivenByOne) lGBO cGBO kGBO
  have mGBO := PySem.W.mg_of X G aGBO
  have bGBO := FGBO.binds (ps := ["layout", "rule", "saying"]) fun _ _ _ _ _ _ us hl => match us, hl with | [_, _, _], _ => rfl
  have FGiven := fun_mk (st := sGiven) lGiven cGiven kGiven
  have mGiven := PySem.W.mg_of X G aGiven
  have bGiven := FGiven.binds (ps := ["layout", "rule", "saying"]) fun _ _ _ _ _ _ us hl => match us, hl with | [_, _, _], _ => rfl
  have FMayGo := fun_mk (st := sMayGo) lMayGo cMayGo kMayGo
  have mMayGo := PySem.W.mg_of X G aMayGo
  have bMayGo := FMayGo.binds (ps := ["dial", "start", "here", "to"]) fun _ _ _ _ _ _ us hl => match us, hl with | [_, _, _, _], _ => rfl
  have FHeave := fun_mk (st := sHeave) lHeave cHeave kHeave
  have mHeave := PySem.W.mg_of X G aHeave
  have bHeave := FHeave.binds (ps := ["layout", "start", "saying", "strength"]) fun _ _ _ _ _ _ us hl => match us, hl with | [_, _, _, _], _ => rfl
  have FNext := fun_mk (st := sNext) lNext cNext kNext
  have mNext := PySem.W.mg_of X G aNext
  have bNext := FNext.binds (ps := ["layout", "numbers", "strength"]) fun _ _ _ _ _ _ us hl => match us, hl with | [_, _, _], _ => rfl
  have FSpread := fun_mk (st := sSpread) lSpread cSpread kSpread
  have mSpread := PySem.W.mg_of X G aSpread
  have bSpread := FSpread.binds (ps := ["house", "standing", "strength"]) fun _ _ _ _ _ _ us hl => match us, hl with | [_, _, _], _ => rfl
  have FPen := fun_mk (st := sPen) lPen cPen kPen
  have mPen := PySem.W.mg_of X G aPen
  have bPen := FPen.binds (ps := ["_law_script"]) fun _ _ _ _ _ _ us hl => match us, hl with | [_], _ => rfl
  have FDraw := fun_mk (st := sDraw) lDraw cDraw kDraw
  have mDraw := PySem.W.mg_of X G aDraw
  have bDraw := FDraw.binds (ps := ["_law_pen_here", "_law_many"]) fun _ _ _ _ _ _ us hl => match us, hl with | [_, _], _ => rfl
  have FPick := fun_mk (st := sPick) lPick cPick kPick
  have mPick := PySem.W.mg_of X G aPick
  have bPick := FPick.binds (ps := ["_law_pen_here", "_law_some"]) fun _ _ _ _ _ _ us hl => match us, hl with | [_, _], _ => rfl
  have FShuf := fun_mk (st := sShuf) lShuf cShuf kShuf
  have mShuf := PySem.W.mg_of X G aShuf
  have bShuf := FShuf.binds (ps := ["_law_pen_here", "_law_some"]) fun _ _ _ _ _ _ us hl => match us, hl with | [_, _], _ => rfl
  have FNames := fun_mk (st := sNames) lNames cNames kNames
  have mNames := PySem.W.mg_of X G aNames
  have bNames := FNames.binds (ps := ["_law_pen_here", "_law_many"]) fun _ _ _ _ _ _ us hl => match us, hl with | [_, _], _ => rfl
  have FAny := fun_mk (st := sAny) lAny cAny kAny
  have mAny := PySem.W.mg_of X G aAny
  have bAny := FAny.binds (ps := ["_law_pen_here", "_law_upto"]) fun _ _ _ _ _ _ us hl => match us, hl with | [_, _], _ => rfl
  have FFrom := fun_mk (st := sFrom) lFrom cFrom kFrom
  have mFrom := PySem.W.mg_of X G aFrom
  have bFrom := FFrom.binds (ps := ["_law_pen_here", "_law_low", "_law_high"]) fun _ _ _ _ _ _ us hl => match us, hl with | [_, _, _], _ => rfl
  have FPriceL := fun_mk (st := sPriceL) lPriceL cPriceL kPriceL
  have mPriceL := PySem.W.mg_of X G aPriceL
  have bPriceL := FPriceL.binds (ps := ["_law_pen_here"]) fun _ _ _ _ _ _ us hl => match us, hl with | [_], _ => rfl
  have FDialL := fun_mk (st := sDial) lDialL cDialL kDialL
  have mDialL := PySem.W.mg_of X G aDialL
  have bDialL := FDialL.binds (ps := ["_law_pen_here", "_law_name", "_law_wide"]) fun _ _ _ _ _ _ us hl => match us, hl with | [_, _, _], _ => rfl
  have FSayL := fun_mk (st := sSay) lSayL cSayL kSayL
  have mSayL := PySem.W.mg_of X G aSayL
  have bSayL := FSayL.binds (ps := ["_law_pen_here", "_law_names_here", "_law_numbers"]) fun _ _ _ _ _ _ us hl => match us, hl with | [_, _, _], _ => rfl
  have FTSay := fun_mk (st := sTSay) lTSay cTSay kTSay
  have mTSay := PySem.W.mg_of X G aTSay
  have bTSay := FTSay.binds (ps := ["_law_pen_here", "_law_at", "_law_slack"]) fun _ _ _ _ _ _ us hl => match us, hl with | [_, _, _], _ => rfl
  have FTRule := fun_mk (st := sTRule) lTRule cTRule kTRule
  have mTRule := PySem.W.mg_of X G aTRule
  have bTRule := FTRule.binds (ps := ["_law_pen_here", "_law_at", "_law_slack"]) fun _ _ _ _ _ _ us hl => match us, hl with | [_, _, _], _ => rfl
  have FHouseL := fun_mk (st := sHouseL) lHouseL cHouseL kHouseL
  have mHouseL := PySem.W.mg_of X G aHouseL
  have bHouseL := FHouseL.binds (ps := ["_law_pen_here", "_law_many", "_law_wide", "_law_rules"]) fun _ _ _ _ _ _ us hl => match us, hl with | [_, _, _, _], _ => rfl
  have FLSaid := fun_mk (st := sLSaid) lLSaid cLSaid kLSaid
  have mLSaid := PySem.W.mg_of X G aLSaid
  have bLSaid := FLSaid.binds (ps := ["_law_saying_here", "_law_at"]) fun _ _ _ _ _ _ us hl => match us, hl with | [_, _], _ => rfl
  have FLHolds := fun_mk (st := sLHolds) lLHolds cLHolds kLHolds
  have mLHolds := PySem.W.mg_of X G aLHolds
  have bLHolds := FLHolds.binds (ps := ["_law_rule", "_law_at"]) fun _ _ _ _ _ _ us hl => match us, hl with | [_, _], _ => rfl
  have FLNamed := fun_mk (st := sLNamed) lLNamed cLNamed kLNamed
  have mLNamed := PySem.W.mg_of X G aLNamed
  have bLNamed := FLNamed.binds (ps := ["_law_house_here", "_law_numbers"]) fun _ _ _ _ _ _ us hl => match us, hl with | [_, _], _ => rfl
  have FLStands := fun_mk (st := sLStands) lLStands cLStands kLStands
  have mLStands := PySem.W.mg_of X G aLStands
  have bLStands := FLStands.binds (ps := ["_law_house_here", "_law_numbers"]) fun _ _ _ _ _ _ us hl => match us, hl with | [_, _], _ => rfl
  have FLAll := fun_mk (st := sLAll) lLAll cLAll kLAll
  have mLAll := PySem.W.mg_of X G aLAll
  have bLAll := FLAll.binds (ps := ["_law_house_here"]) fun _ _ _ _ _ _ us hl => match us, hl with | [_], _ => rfl
  have FLMay := fun_mk (st := sLMay) lLMay cLMay kLMay
  have mLMay := PySem.W.mg_of X G aLMay
  have bLMay := FLMay.binds (ps := ["_law_dial_here", "_law_one", "_law_other"]) fun _ _ _ _ _ _ us hl => match us, hl with | [_, _, _], _ => rfl
  have FLCan := fun_mk (st := sLCan) lLCan cLCan kLCan
  have mLCan := PySem.W.mg_of X G aLCan
  have bLCan := FLCan.binds (ps := ["_law_house_here", "_law_here", "_law_there"]) fun _ _ _ _ _ _ us hl => match us, hl with | [_, _, _], _ => rfl
  have FLBes := fun_mk (st := sLBes) lLBes cLBes kLBes
  have mLBes := PySem.W.mg_of X G aLBes
  have bLBes := FLBes.binds (ps := ["_law_house_here", "_law_here", "_law_places"]) fun _ _ _ _ _ _ us hl => match us, hl with | [_, _, _], _ => rfl
  have FLNear := fun_mk (st := sLNear) lLNear cLNear kLNear
  have mLNear := PySem.W.mg_of X G aLNear
  have bLNear := FLNear.binds (ps := ["_law_house_here", "_law_standing", "_law_strength"]) fun _ _ _ _ _ _ us hl => match us, hl with | [_, _, _], _ => rfl
  have FLTold := fun_mk (st := sLTold6) lLTold cLTold kLTold
  have mLTold := PySem.W.mg_of X G aLTold
  have bLTold := FLTold.binds (ps := ["_law_house_here", "_law_standing", "_law_strength"]) fun _ _ _ _ _ _ us hl => match us, hl with | [_, _, _], _ => rfl
  have FLWide := fun_mk (st := sLWide) lLWide cLWide kLWide
  have mLWide := PySem.W.mg_of X G aLWide
  have bLWide := FLWide.binds (ps := ["_law_pen_here"]) fun _ _ _ _ _ _ us hl => match us, hl with | [_], _ => rfl
  have FLHeld := fun_mk (st := sLHeld) lLHeld cLHeld kLHeld
  have mLHeld := PySem.W.mg_of X G aLHeld
  have bLHeld := FLHeld.binds (ps := ["_law_pen_here"]) fun _ _ _ _ _ _ us hl => match us, hl with | [_], _ => rfl
  have FLaw := fun_mk (st := sLaw) lLaw cLaw kLaw
  have mLaw := PySem.W.mg_of X G aLaw
  have FInit := fun_mk (st := sInit) lInit cInit kInit
  have bInit := FInit.binds (ps := ["self", "house"]) fun _ _ _ _ _ _ us hl => match us, hl with | [_, _], _ => rfl
  have FByN := fun_mk (st := sByN) lByN cByN kByN
  have bByN := FByN.binds (ps := ["self", "numbers"]) fun _ _ _ _ _ _ us hl => match us, hl with | [_, _], _ => rfl
  have FNumsOf := fun_mk (st := sNumsOf) lNumsOf cNumsOf kNumsOf
  have bNumsOf := FNumsOf.binds (ps := ["self", "now"]) fun _ _ _ _ _ _ us hl => match us, hl with | [_, _], _ => rfl
  refine ⟨PySem.W.fnOf "law" "law" (defArgs sLaw) (defBody sLaw) (defScope sLaw) .none kVLaw dcLaw pmLaw anLaw cdLaw ctLaw, [(xIsName, PIsName), (xAreN, PAreN)], fun p hp => ?_, fun s v => .of_eq rfl, fun bs _ _ htb => ?_⟩
  · simp only [List.mem_cons, List.not_mem_nil, or_false] at hp
    rcases hp with e | e
    · rw [e]
      exact ⟨"is_name", dr1, hdr1, hTIsName, hPIsName⟩
    · rw [e]
      exact ⟨"are_numbers", dr2, hdr2, hTAreN, hPAreN⟩
  have TB := htb (xIsName, PIsName) (by simp)
  have TB2 := htb (xAreN, PAreN) (by simp)
  have n1 : PIsName ∈ [PIsName, PAreN] := by simp
  have n2 : PAreN ∈ [PIsName, PAreN] := by simp
  have oWhole := ok_whole (P := l.prog) (w := w) (base := bs) FWhole BH
  have oTupOf := ok_tupOf (P := l.prog) (w := w) (base := bs) FTupOf BH
  have oIsName := ok_isName (P := l.prog) (w := w) (base := bs) lIsName cIsName TB C BH
  have oPrice := ok_price FPrice oWhole bWhole kWhole mWhole C
  have oIsDial := ok_isDial FIsDial oWhole bWhole kWhole mWhole oTupOf bTupOf kTupOf mTupOf oIsName bIsName kIsName mIsName oPrice bPrice kPrice mPrice C
  have oIsSaying := ok_isSaying FIsSaying oWhole bWhole kWhole mWhole oTupOf bTupOf kTupOf mTupOf C
  have oIsRule := ok_isRule FIsRule oWhole bWhole kWhole mWhole oTupOf bTupOf kTupOf mTupOf oIsSaying bIsSaying kIsSaying mIsSaying C
  have oForm := ok_form FForm oTupOf bTupOf kTupOf mTupOf C
  have oFDial := ok_fDial FFDial oIsDial bIsDial kIsDial mIsDial BH
  have oFRule := ok_fRule FFRule oIsRule bIsRule kIsRule mIsRule BH
  have oFault := ok_fault FFault oForm bForm kForm mForm oFDial bFDial kFDial mFDial oFRule bFRule kFRule mFRule
  have oAreN := ok_areN lAreN cAreN TB2 BH mz FWhole bWhole kWhole mWhole oTupOf bTupOf kTupOf mTupOf
  have oHolds := ok_holds (P := l.prog) (w := w) (base := bs) (mg := mg) FHolds 
  have oRuleH := ok_ruleH FRuleH oHolds bHolds kHolds mHolds
  have oNamesIn := ok_namesIn (P := l.prog) (w := w) (base := bs) (mg := mg) FNamesIn 
  have oInit := ok_init FInit T oNamesIn bNamesIn kNamesIn mNamesIn
  have oByN := ok_byN (P := l.prog) (w := w) (base := bs) (mg := mg) FByN T B.dict mz
  have oNumsOf := ok_numsOf (P := l.prog) (w := w) (base := bs) (mg := mg) FNumsOf T B.tuple
  have oCheckH := ok_checkH n1 FCheckH oFault bFault kFault mFault
  have oBrkR := ok_brkR FBrkR T M oInit bInit oByN bByN MB oRuleH bRuleH kRuleH mRuleH BH
  have oStands := ok_stands n2 FStands oAreN bAreN kAreN mAreN oBrkR bBrkR kBrkR mBrkR
  have oCheckS := ok_checkS FCheckS oStands bStands kStands mStands
  have oFits := ok_fitsNone (P := l.prog) (w := w) (base := bs) (mg := mg) FFits T
  have oDenies := ok_denies FDenies B T oFits bFits kFits mFits
  have oGBO := ok_gbo FGBO oDenies bDenies kDenies mDenies
  have oGiven := ok_given FGiven oGBO bGBO kGBO mGBO
  have oHoldsS := ok_holdsS (P := l.prog) (w := w) (base := bs) (mg := mg) FHolds
  have oMayGo := ok_mayGo (P := l.prog) (w := w) (base := bs) (mg := mg) FMayGo 
  have oHeave := ok_heave FHeave T B.dict B.abs oHoldsS bHolds kHolds mHolds oMayGo bMayGo kMayGo mMayGo oGiven bGiven kGiven mGiven
  have oNext := ok_next FNext T oByN bByN MB oHeave bHeave kHeave mHeave oNumsOf bNumsOf MN
  have oSpread := ok_spread (Ps := [PIsName, PAreN]) FSpread B R (PySem.W.mg_of X G y_told) (PySem.W.mg_of X G y_sprd) oCheckH bCheckH kCheckH mCheckH oCheckS bCheckS kCheckS mCheckS oWhole bWhole kWhole mWhole T M oInit bInit oByN bByN MB oNumsOf bNumsOf MN oNext bNext kNext mNext
  have oPen := ok_pen (P := l.prog) (w := w) (base := bs) (mg := mg) FPen B
  have oDraw := (ok_draw (P := l.prog) (w := w) (base := bs) (mg := mg) FDraw B).imp draw_imp
  have oPick := ok_pick FPick oDraw bDraw kDraw mDraw B
  have oShuf := ok_shuf FShuf oDraw bDraw kDraw mDraw B
  have oAny := ok_any FAny oDraw bDraw kDraw mDraw B
  have oFrom := ok_from FFrom oDraw bDraw kDraw mDraw oAny bAny kAny mAny B
  have oPriceL := ok_priceL FPriceL oDraw bDraw kDraw mDraw oPick bPick kPick mPick
  have oNames := ok_names FNames oDraw bDraw kDraw mDraw oPick bPick kPick mPick B
  have oDialL := ok_dialL FDialL oDraw bDraw kDraw mDraw oPick bPick kPick mPick oFrom bFrom kFrom mFrom oPriceL bPriceL kPriceL mPriceL
  have oSayL := ok_sayL FSayL oDraw bDraw kDraw mDraw oPick bPick kPick mPick oFrom bFrom kFrom mFrom
  have oTSay := ok_tsay FTSay oDraw bDraw kDraw mDraw oPick bPick kPick mPick B
  have oTRule := ok_trule FTRule oDraw bDraw kDraw mDraw oShuf bShuf kShuf mShuf oTSay bTSay kTSay mTSay oSayL bSayL kSayL mSayL B
  have oHouseL := ok_houseL FHouseL oDraw bDraw kDraw mDraw oPick bPick kPick mPick oNames bNames kNames mNames oDialL bDialL kDialL mDialL oFrom bFrom kFrom mFrom oTRule bTRule kTRule mTRule B
  have oLSaid := ok_lsaid (P := l.prog) (w := w) (base := bs) (mg := mg) FLSaid 
  have oLNamed := ok_lnamed (P := l.prog) (w := w) (base := bs) (mg := mg) FLNamed B.dict mz
  have oLHolds := ok_lholds FLHolds oLSaid bLSaid kLSaid mLSaid
  have oLStands := ok_lstands FLStands oLNamed bLNamed kLNamed mLNamed oLHolds bLHolds kLHolds mLHolds
  have oLMay := ok_lmay (P := l.prog) (w := w) (base := bs) (mg := mg) FLMay 
  have oLAll := ok_lall (P := l.prog) (w := w) (base := bs) (mg := mg) FLAll B.range
  have oLCan := ok_lcan FLCan mz oLMay bLMay kLMay mLMay
  have oLBes := ok_lbes FLBes B B.range B.abs oLMay bLMay kLMay mLMay
  have oLNear := ok_lnear FLNear B oLBes bLBes kLBes mLBes oLStands bLStands kLStands mLStands
  have oLTold := ok_ltold (Ps := [PIsName, PAreN]) FLTold CT B.isinstance oSpread bSpread kSpread mSpread
  have oLWide := ok_lwide FLWide B oDraw bDraw kDraw mDraw oNames bNames kNames mNames oPick bPick kPick mPick oLAll bLAll kLAll mLAll oLCan bLCan kLCan mLCan oLTold bLTold kLTold mLTold
  have oLHeld := ok_lheld FLHeld B oDraw bDraw kDraw mDraw oNames bNames kNames mNames oPick bPick kPick mPick oLTold bLTold kLTold mLTold
  exact ok_law (Ps := [PIsName, PAreN]) rfl FLaw ⟨⟨_, _, oPen, bPen, kPen, mPen⟩, ⟨_, _, oDraw, bDraw, kDraw, mDraw⟩, ⟨_, _, oHouseL, bHouseL, kHouseL, mHouseL⟩, ⟨_, _, oLNear, bLNear, kLNear, mLNear⟩, ⟨_, _, oLTold, bLTold, kLTold, mLTold⟩, ⟨_, _, oLWide, bLWide, kLWide, mLWide⟩, ⟨_, _, oLHeld, bLHeld, kLHeld, mLHeld⟩⟩ B
end Pk
section
open PySem PySem.W PyProof.Rows
set_option maxHeartbeats 0
open_top hdK06 for PySem.Challenge.rw_pawldials_k06_standings_near
end
open PySem PySem.W PyProof.Rows
set_option maxRecDepth 100000 in
set_option maxHeartbeats 0 in
theorem PySem.Challenge.cw_pawldials_k06_standings_near_holds : PySem.Challenge.rw_pawldials_k06_standings_near.Holds := by
  refine hdK06 ?_
  k_fill
  refine Pk.walkGT (l := PySem.Challenge.rw_pawldials_k06_standings_near) (n := 63) (k := 18) (x := "_law_script") (sp := Pk.spLaw) ⟨rfl, by decide, by decide⟩ rfl (by decide) rfl (fun w h Y => PySem.W.kIn_of Y) ?G (fun K cs H a ns hl hT hS => ⟨a, ns, rfl, hS, hl, fun p hp => ⟨#[], hT p hp, trivial⟩, fun _ => rfl⟩)
  case G =>
    intro w mg fa h KX G hmg
    refine' Pk.all_mk KX G hmg ?gL ?gW ?gG ?gS ?gD ?aIsName ?lIsName ?cIsName ?kIsName ?aAreN ?lAreN ?cAreN ?kAreN ?aWhole ?lWhole ?cWhole ?kWhole ?aTupOf ?lTupOf ?cTupOf ?kTupOf ?aPrice ?lPrice ?cPrice ?kPrice ?aIsDial ?lIsDial ?cIsDial ?kIsDial ?aIsSaying ?lIsSaying ?cIsSaying ?kIsSaying ?aIsRule ?lIsRule ?cIsRule ?kIsRule ?aForm ?lForm ?cForm ?kForm ?aFDial ?lFDial ?cFDial ?kFDial ?aFRule ?lFRule ?cFRule ?kFRule ?aFault ?lFault ?cFault ?kFault ?aHolds ?lHolds ?cHolds ?kHolds ?aRuleH ?lRuleH ?cRuleH ?kRuleH ?aNamesIn ?lNamesIn ?cNamesIn ?kNamesIn ?aCheckH ?lCheckH ?cCheckH ?kCheckH ?aBrkR ?lBrkR ?cBrkR ?kBrkR ?aStands ?lStands ?cStands ?kStands ?aCheckS ?lCheckS ?cCheckS ?kCheckS ?aFits ?lFits ?cFits ?kFits ?aDenies ?lDenies ?cDenies ?kDenies ?aGBO ?lGBO ?cGBO ?kGBO ?aGiven ?lGiven ?cGiven ?kGiven ?aMayGo ?lMayGo ?cMayGo ?kMayGo ?aHeave ?lHeave ?cHeave ?kHeave ?aNext ?lNext ?cNext ?kNext ?aSpread ?lSpread ?cSpread ?kSpread ?aPen ?lPen ?cPen ?kPen ?aDraw ?lDraw ?cDraw ?kDraw ?aPick ?lPick ?cPick ?kPick ?aShuf ?lShuf ?cShuf ?kShuf ?aNames ?lNames ?cNames ?kNames ?aAny ?lAny ?cAny ?kAny ?aFrom ?lFrom ?cFrom ?kFrom ?aPriceL ?lPriceL ?cPriceL ?kPriceL ?aDialL ?lDialL ?cDialL ?kDialL ?aSayL ?lSayL ?cSayL ?kSayL ?aTSay ?lTSay ?cTSay ?kTSay ?aTRule ?lTRule ?cTRule ?kTRule ?aHouseL ?lHouseL ?cHouseL ?kHouseL ?aLSaid ?lLSaid ?cLSaid ?kLSaid ?aLHolds ?lLHolds ?cLHolds ?kLHolds ?aLNamed ?lLNamed ?cLNamed ?kLNamed ?aLStands ?lLStands ?cLStands ?kLStands ?aLAll ?lLAll ?cLAll ?kLAll ?aLMay ?lLMay ?cLMay ?kLMay ?aLCan ?lLCan ?cLCan ?kLCan ?aLBes ?lLBes ?cLBes ?kLBes ?aLNear ?lLNear ?cLNear ?kLNear ?aLTold ?lLTold ?cLTold ?kLTold ?aLWide ?lLWide ?cLWide ?kLWide ?aLHeld ?lLHeld ?cLHeld ?kLHeld ?aLaw ?lLaw ?cLaw ?kLaw ?aInit ?lInit ?cInit ?kInit ?aByN ?lByN ?cByN ?kByN ?aNumsOf ?lNumsOf ?cNumsOf ?kNumsOf ?y_far ?y_great ?y_dear ?y_long ?y_dials ?y_rules ?y_told ?y_sprd ?y_W ?y_S ?y_R ?z_isinstance ?z_bool ?z_int ?z_str ?z_tuple ?z_list ?z_len ?z_all ?z_enumerate ?z_abs ?z_dict ?z_range ?z_repr ?z_sorted ?z_min ?z_max ?z_zip ?z_ValueError ?hTIsName ?hPIsName ?hrIsName ?hTAreN ?hPAreN ?hrAreN ?hchk ?hcls
    (case gL => k_is); (case gW => k_is); (case gG => k_is); (case gS => k_is); (case gD => k_is); (case aIsName => k_is); (case lIsName => k_is); (case cIsName => k_is)
    (case kIsName => k_is); (case aAreN => k_is); (case lAreN => k_is); (case cAreN => k_is); (case kAreN => k_is); (case aWhole => k_is); (case lWhole => k_is); (case cWhole => k_is)
    (case kWhole => k_is); (case aTupOf => k_is); (case lTupOf => k_is); (case cTupOf => k_is); (case kTupOf => k_is); (case aPrice => k_is); (case lPrice => k_is); (case cPrice => k_is)
    (case kPrice => k_is); (case aIsDial => k_is); (case lIsDial => k_is); (case cIsDial => k_is); (case kIsDial => k_is); (case aIsSaying => k_is); (case lIsSaying => k_is); (case cIsSaying => k_is)
    (case kIsSaying => k_is); (case aIsRule => k_is); (case lIsRule => k_is); (case cIsRule => k_is); (case kIsRule => k_is); (case aForm => k_is); (case lForm => k_is); (case cForm => k_is)
    (case kForm => k_is); (case aFDial => k_is); (case lFDial => k_is); (case cFDial => k_is); (case kFDial => k_is); (case aFRule => k_is); (case lFRule => k_is); (case cFRule => k_is)
    (case kFRule => k_is); (case aFault => k_is); (case lFault => k_is); (case cFault => k_is); (case kFault => k_is); (case aHolds => k_is); (case lHolds => k_is); (case cHolds => k_is)
    (case kHolds => k_is); (case aRuleH => k_is); (case lRuleH => k_is); (case cRuleH => k_is); (case kRuleH => k_is); (case aNamesIn => k_is); (case lNamesIn => k_is); (case cNamesIn => k_is)
    (case kNamesIn => k_is); (case aCheckH => k_is); (case lCheckH => k_is); (case cCheckH => k_is); (case kCheckH => k_is); (case aBrkR => k_is); (case lBrkR => k_is); (case cBrkR => k_is)
    (case kBrkR => k_is); (case aStands => k_is); (case lStands => k_is); (case cStands => k_is); (case kStands => k_is); (case aCheckS => k_is); (case lCheckS => k_is); (case cCheckS => k_is)
    (case kCheckS => k_is); (case aFits => k_is); (case lFits => k_is); (case cFits => k_is); (case kFits => k_is); (case aDenies => k_is); (case lDenies => k_is); (case cDenies => k_is)
    (case kDenies => k_is); (case aGBO => k_is); (case lGBO => k_is); (case cGBO => k_is); (case kGBO => k_is); (case aGiven => k_is); (case lGiven => k_is); (case cGiven => k_is)
    (case kGiven => k_is); (case aMayGo => k_is); (case lMayGo => k_is); (case cMayGo => k_is); (case kMayGo => k_is); (case aHeave => k_is); (case lHeave => k_is); (case cHeave => k_is)
    (case kHeave => k_is); (case aNext => k_is); (case lNext => k_is); (case cNext => k_is); (case kNext => k_is); (case aSpread => k_is); (case lSpread => k_is); (case cSpread => k_is)
    (case kSpread => k_is); (case aPen => k_is); (case lPen => k_is); (case cPen => k_is); (case kPen => k_is); (case aDraw => k_is); (case lDraw => k_is); (case cDraw => k_is)
    (case kDraw => k_is); (case aPick => k_is); (case lPick => k_is); (case cPick => k_is); (case kPick => k_is); (case aShuf => k_is); (case lShuf => k_is); (case cShuf => k_is)
    (case kShuf => k_is); (case aNames => k_is); (case lNames => k_is); (case cNames => k_is); (case kNames => k_is); (case aAny => k_is); (case lAny => k_is); (case cAny => k_is)
    (case kAny => k_is); (case aFrom => k_is); (case lFrom => k_is); (case cFrom => k_is); (case kFrom => k_is); (case aPriceL => k_is); (case lPriceL => k_is); (case cPriceL => k_is)
    (case kPriceL => k_is); (case aDialL => k_is); (case lDialL => k_is); (case cDialL => k_is); (case kDialL => k_is); (case aSayL => k_is); (case lSayL => k_is); (case cSayL => k_is)
    (case kSayL => k_is); (case aTSay => k_is); (case lTSay => k_is); (case cTSay => k_is); (case kTSay => k_is); (case aTRule => k_is); (case lTRule => k_is); (case cTRule => k_is)
    (case kTRule => k_is); (case aHouseL => k_is); (case lHouseL => k_is); (case cHouseL => k_is); (case kHouseL => k_is); (case aLSaid => k_is); (case lLSaid => k_is); (case cLSaid => k_is)
    (case kLSaid => k_is); (case aLHolds => k_is); (case lLHolds => k_is); (case cLHolds => k_is); (case kLHolds => k_is); (case aLNamed => k_is); (case lLNamed => k_is); (case cLNamed => k_is)
    (case kLNamed => k_is); (case aLStands => k_is); (case lLStands => k_is); (case cLStands => k_is); (case kLStands => k_is); (case aLAll => k_is); (case lLAll => k_is); (case cLAll => k_is)
    (case kLAll => k_is); (case aLMay => k_is); (case lLMay => k_is); (case cLMay => k_is); (case kLMay => k_is); (case aLCan => k_is); (case lLCan => k_is); (case cLCan => k_is)
    (case kLCan => k_is); (case aLBes => k_is); (case lLBes => k_is); (case cLBes => k_is); (case kLBes => k_is); (case aLNear => k_is); (case lLNear => k_is); (case cLNear => k_is)
    (case kLNear => k_is); (case aLTold => k_is); (case lLTold => k_is); (case cLTold => k_is); (case kLTold => k_is); (case aLWide => k_is); (case lLWide => k_is); (case cLWide => k_is)
    (case kLWide => k_is); (case aLHeld => k_is); (case lLHeld => k_is); (case cLHeld => k_is); (case kLHeld => k_is); (case aLaw => k_is); (case lLaw => k_is); (case cLaw => k_is)
    (case kLaw => k_is); (case aInit => k_is); (case lInit => k_is); (case cInit => k_is); (case kInit => k_is); (case aByN => k_is); (case lByN => k_is); (case cByN => k_is)
    (case kByN => k_is); (case aNumsOf => k_is); (case lNumsOf => k_is); (case cNumsOf => k_is); (case kNumsOf => k_is); (case y_far => k_is); (case y_great => k_is); (case y_dear => k_is)
    (case y_long => k_is); (case y_dials => k_is); (case y_rules => k_is); (case y_told => k_is); (case y_sprd => k_is); (case y_W => k_is); (case y_S => k_is); (case y_R => k_is)
    (case z_isinstance => k_is); (case z_bool => k_is); (case z_int => k_is); (case z_str => k_is); (case z_tuple => k_is); (case z_list => k_is); (case z_len => k_is); (case z_all => k_is)
    (case z_enumerate => k_is); (case z_abs => k_is); (case z_dict => k_is); (case z_range => k_is); (case z_repr => k_is); (case z_sorted => k_is); (case z_min => k_is); (case z_max => k_is)
    (case z_zip => k_is); (case z_ValueError => k_is)
    (case hTIsName => refine' Pk.tab_in ?a ?l ?hc ?lc ?hv; (case a => k_is); (case l => k_is); (case hc => rfl); (case lc => k_is); (case hv => rfl))
    (case hPIsName => kernel_rfl)
    (case hrIsName => kernel_rfl)
    (case hTAreN => refine' Pk.tab_in ?a ?l ?hc ?lc ?hv; (case a => k_is); (case l => k_is); (case hc => rfl); (case lc => k_is); (case hv => rfl))
    (case hPAreN => kernel_rfl)
    (case hrAreN => kernel_rfl)
    (case hchk => kernel_rfl)
    (case hcls => kernel_rfl)
