import PyProof.Rows.All
import Wide.All
import OpenK.AllK
import Wide.FinOn
import HandS.ForMost
import HandS.Exc
import HandS.ExcOwn
import HandS.ExcValue
import HandS.ExcInit
import HandS.ExcField
import HandS.ExcIs
import HandS.IsInst
import HandS.DictComp
import KE.KExcIs
import KE.KIsAll
import PyProof.ReprRoads
import PyProof.ExcFactsAll.LookupError
import PyProof.ExcFactsAll.RuntimeError
import PyProof.ExcFactsAll.ValueError
import PyProof.EqAt
import PyProof.EqKinds
import PyProof.FactsAll.subtypes_3
import PyProof.FactsAll.subtypes_4
import PyProof.FactsAll.dict_1
import PyProof.CallFns
import PyProof.Draws
import PyProof.EnumMake
import PyProof.TupleIter
import HandS.AnyAll
import HandS.EndBits
import HandS.Lambda
import KE.KLam
import HandS.Walk
import HandS.Style
import HandS.TupAny
import HandS.More
import HandS.Deep
import PyProof.Rows.IntBool
import PyProof.CallStr
import HandS.Wide
import PyProof.ReprBulk
import HandS.TryOnly
import PyProof.Rows.StrMeet
import PyProof.Rows.ReprOcc
import KE.GoesZip
import PyProof.GenCompD
import HandS.Zip
import KE.KDictZip
import HandS.Flow
import HandS.Iter
import HandS.Text
import HandS.FStr
import KE.IntTextLaws
import HandS.GenList
import HandS.Nested
import HandS.WordsExc
import PyProof.SumAny
import PyProof.ListOps
import HandS.TupLe
import PySem.Challenge.RW_pawldials_k09_chains_by_rules
set_option Elab.async false
set_option maxRecDepth 100000
/-! Own rules: errors that are held as values, and data of any depth with dicts in it. -/
namespace Pk
open PySem L2 PySem.Spec PyProof.Rows

theorem sameNew {H : Hp} {p : Addr} (h : H p = none) (o : HO) : Same H (upd H p o) := fun b u q => by rw [upd_ne (ne_of_none q h)]; exact q

/-! ### errors as values -/
/-- at a: an error of the class at C, with these fields -/
def Exq (H : Hp) (a C : Addr) (fs : List (Str × V)) : Prop :=
  (fs = [] ∧ H a = some (ExO (.ref C) a)) ∨ ∃ d, H a = some (exo a C (some d)) ∧ H d = some (exd d fs)
theorem Exq.same {H H' : Hp} {a C : Addr} {fs : List (Str × V)} (s : Same H H') (e : Exq H a C fs) : Exq H' a C fs := by
  rcases e with ⟨h, e⟩ | ⟨d, e, f⟩
  · exact .inl ⟨h, s _ _ e⟩
  · exact .inr ⟨d, s _ _ e, s _ _ f⟩
section
variable {X : Cx}
/-- C(), a class without an own __init__ -/
theorem pe_exq0 {C : Addr} {bmB : List Value} {B newId initId : String} {x : Str} {p pos : Pos} (F : ExcBaseFacts B newId initId bmB) (q : PySem.W.excIn X.K C bmB newId = true) (gC : X.mg x = some (.ref C)) (kC : PySem.W.keepIn X.K (.ref C) = true) (hg : Gl X x)
    (hdg : (x == ("__debug__" : Str)) = false := by decide) :
    PE X (.Call (.Name x p) [] [] pos) (fun σ H Q => ∀ a H', Same H H' → Exq H' a C [] → Q (.ref a) H') := by
  refine ⟨fun pz s σ H Q I h => ?_⟩
  refine wpAny_Call_Name_kw (ld_glob I hg gC ?_ hdg)
  refine PySem.W.callWith_K0 I.kIn kC ?_
  show wpAny _ _ (call (.ref C) []) _ _ _
  obtain ⟨bm, N, n0, qn, bs, hdct, sn, sub, ab, col, dd, k0, k1, k2, k3, k5, mN, hcl0, hN, hni, TT⟩ := exc_obj I.kIn q
  refine wpAny_call_exc_subT F TT hcl0 hN hni (fun h' a hm => ?_) (by show 0 ≤ sizeLine; omega)
  have hn : H a = none := I.hok.gone hm.new
  obtain ⟨t, htt, _, _⟩ := hm.there
  exact ⟨.ref a, upd H a (ExO (.ref C) a), I.laidN hm.keeps hm.new hn (exO_ok htt ⟨rfl, rfl⟩ rfl rfl rfl (show 4 < 6 by decide)), rfl, h a _ (sameNew hn _) (.inl ⟨rfl, upd_same⟩)⟩
/-- C(e, ..), C's own __init__ keeping sp; the error is the value -/
def tMkV (C : Addr) (sp : Sp) (ta : TA) : TE := fun σ H Q => ta σ H fun vs Ha => vs.length ≤ 1000 ∧ ∀ a, Ha a = none → sp (.ref a :: vs) (upd Ha a (exo a C none)) (fun v H2 => v = .non ∧ Q (.ref a) H2) (fun _ _ _ => False)
theorem pe_mkV {e : Expr} {es : List Expr} {ta : TA} {p pos : Pos} {CX : CXT} {x : Str} {C fI : Addr} {k : Nat} {fd : FuncData} {ps : List Str} {sp : Sp} (TT : OexC X.K C) (iC : PySem.W.findIn X.K (.ref C) "__init__" = some (some (.ref fI))) (tI : PySem.W.typeIn X.K (.ref fI) = some (.type "function"))
    (F1 : FnOk X.prog X.w X.K X.mg X.base CX k fI fd ps sp) (hr : Room (k + 1) X.A) (hb : Binds X.K fd ps []) (hx : Passes CX X (fun _ _ _ => False)) (hg : Gl X x) (hm : X.mg x = some (.ref C)) (ha : PA X (e :: es) ta)
    (hdg : (x == ("__debug__" : Str)) = false := by decide) (he : starEach (e :: es) X.env = (false, eval e X.env) :: starEach es X.env := by rfl) (hpz : (backTo pos (starEach es X.env)).any (·.1) = false := by rfl) :
    PE X (.Call (.Name x p) (e :: es) [] pos) (tMkV C sp ta) := by
  refine ⟨fun pz s σ H Q I h => ?_⟩
  obtain ⟨n0, q, N, bs, bm, sn, sub, ab, col, dd, k0, k1, k2, k3, k5, hcl0, hbq⟩ := TT.cls
  refine wpAny_Call_Name_kw (ld_glob I hg hm ?_ hdg)
  refine PySem.W.callWith_K (h₀ := X.base) I.ok.mod.kin TT.kC (thn (ha.run pos pz s σ H _ I h) fun ua sa ⟨vs, Ha, Ia, ra, hy, qa⟩ => ⟨Ia.kIn, ?_⟩) he hpz
  show wpAny _ _ (call (.ref C) ua) _ _ _
  obtain ⟨hq, g, dw, tz, oz⟩ := sa
  have hsa : hq.objs.size ≤ hq.objs.size + 1 := Nat.le_succ _
  have hn : Ha (hq.objs.size + 1) = none := Ia.hok.fresh hsa
  have hf0 := qa (hq.objs.size + 1) hn
  have kq : ∀ b o, hq.get? b = some o → ((hq.push (PySem.W.kdv_tup ua)).push (PySem.HandSPX.excO C hq.objs.size)).get? b = some o := fun b o e => Heap.get?_push_of_some _ (Heap.get?_push_of_some _ e)
  have hgq : ((hq.push (PySem.W.kdv_tup ua)).push (PySem.HandSPX.excO C hq.objs.size)).get? (hq.objs.size + 1) = some (PySem.HandSPX.excO C hq.objs.size) := by heap_get
  have Ib : Inv X pz σ (upd Ha (hq.objs.size + 1) (exo (hq.objs.size + 1) C none)) ⟨(hq.push (PySem.W.kdv_tup ua)).push (PySem.HandSPX.excO C hq.objs.size), g, dw, tz, oz⟩ :=
    Ia.laid (t' := tz) (a := hq.objs.size + 1) (o := exo (hq.objs.size + 1) C none) (h' := (hq.push (PySem.W.kdv_tup ua)).push (PySem.HandSPX.excO C hq.objs.size)) kq hsa (exo_ok hgq)
  have rb : Vals (V.ref (hq.objs.size + 1) :: vs) (Value.ref (hq.objs.size + 1) :: ua) := .cons rfl ra
  have hl : (Value.ref (hq.objs.size + 1) :: ua).length = ps.length := by
    have e := rb.length
    rw [F1.len _ _ _ _ hf0] at e
    exact e.symm
  have hua : ua.length ≤ sizeLine := by
    rw [← Paired.length ra, sizeLine_eq]
    omega
  have b := hb ⟨(hq.push (PySem.W.kdv_tup ua)).push (PySem.HandSPX.excO C hq.objs.size), g, dw, tz, oz⟩ (Value.ref (hq.objs.size + 1) :: ua) Ib.kIn (by rw [List.append_nil]; exact hl)
  rw [List.append_nil] at b
  refine wpAny_call (PySem.HandSPX.call_own F.excBase_ValueError (fun Y => PySem.HandSPX.refsVE_contains Y bm hbq) (Ia.kIn _ _ hcl0) (PySem.W.looks_findIn Ia.kIn iC) (fun self => PySem.W.bind_fn Ia.kIn self tI) hua
    (codeAny_mono (F1.run _ X.stack _ _ ⟨Value.ref (hq.objs.size + 1) :: ua, []⟩ (Value.ref (hq.objs.size + 1) :: ua) _ _ (fun _ _ _ => False) (hr.make C ua []) (Ib.env0.make C ua []) b rb hf0) fun r s' hw' => ?_))
  cases r with
  | error ee => exact hx pz σ _ _ ee s' Ib hw'
  | ok fl =>
    cases fl with
    | ret u =>
      obtain ⟨v, H', Ic, rz, ev, q3⟩ := Ib.after hw'
      subst ev
      exact ⟨rz, ⟨V.ref (hq.objs.size + 1), H', Ic, rfl, q3⟩⟩
    | next => exact hw'.elim
    | brk => exact hw'.elim
    | cont => exact hw'.elim
/-- e.f of an error that is held as a value -/
theorem pe_exf {e : Expr} {te : TE} {pos : Pos} {n : Str} (he : PE X e te) (hb : attributeBase e n X.env (eval e X.env) = eval e X.env := by rfl) :
    PE X (.Attribute e n pos) (fun σ H Q => te σ H fun x Ha => ∃ (a C : Addr) (fs : List (Str × V)) (v : V), x = .ref a ∧ Exq Ha a C fs ∧ XfC X.K C ∧ PySem.W.findIn X.K (.ref C) n = some none ∧ fs.lookup n = some v ∧ Q v Ha) := by
  refine ⟨fun pz s σ H Q I h => ?_⟩
  refine attr_of hb (thn (he.run pz s σ H _ I h) fun u sa hw => ?_)
  obtain ⟨x, Ha, Ia, ry, a, C, fs, v, ex, ea, TT, hnn, l, q⟩ := hw
  subst ex
  cases (show u = .ref a from ry)
  rcases ea with ⟨hf, _⟩ | ⟨dd, e1, e2⟩
  · subst hf
    cases l
  · obtain ⟨t1, ha⟩ := exo_at Ia.hok e1
    obtain ⟨mq, hnq, hr⟩ := exd_at Ia.hok e2
    obtain ⟨oq, ho, hl⟩ := lookIn_ns hnq
    obtain ⟨u, hu, ru⟩ := RelO.some_of (v := v) (o := mq n) (by rw [← l]; exact hr n)
    have J : PySem.W.InstAt sa.heap a { cls := .ref C, dict := some dd, data := .fields #[.ref t1, .none, .none, .none, .bool false, .none] } C (some oq) := ⟨ha, rfl, rfl, ho⟩
    exact HandSPX.exc_get Ia.kIn J TT.ga TT.gg TT.exC (PySem.W.findObj_own TT.hdC hnn rfl (by rw [hl, hu])) (handed_of ru) ⟨v, Ha, Ia.tok _, ru, q⟩
/-- what isinstance asks of such an error -/
theorem Exq.kit {pz : List (Addr × Obj)} {σ : L2.St} {H : Hp} {s : Shared} {a C : Addr} {fs : List (Str × V)} (I : L2.Inv X pz σ H s) (e : Exq H a C fs) (TT : ExcC X.K C) : ∃ P : Heap → Prop, PySem.W.KitX X.K (.ref a) (.ref C) P ∧ P s.heap := by
  have hcl : (PySem.W.clsIn X.K C).isSome = true := by
    obtain ⟨cd, hc, _⟩ := PySem.W.any_some TT.hd
    rw [hc]
    rfl
  rcases e with ⟨_, e⟩ | ⟨dd, e1, e2⟩
  · obtain ⟨⟨oe, vs, ho, hy, hd, _⟩, _, _⟩ := I.hok a _ e
    refine ⟨_, PySem.W.kitx_exc (ox := oe) (od := none) hcl TT.hg TT.hk TT.hs TT.ha TT.hn TT.ht TT.hm, ?_⟩
    obtain ⟨oc, oq, oda, osl⟩ := oe
    obtain ⟨h1, h2⟩ := hy
    dsimp only at h1 h2 hd
    subst h1 h2 hd
    exact ⟨ho, rfl, rfl, trivial⟩
  · obtain ⟨t1, ha⟩ := exo_at I.hok e1
    obtain ⟨mq, hnq, hr⟩ := exd_at I.hok e2
    obtain ⟨oq, ho, hl⟩ := lookIn_ns hnq
    exact ⟨_, PySem.W.kitx_exc (ox := { cls := .ref C, dict := some dd, data := .fields #[.ref t1, .none, .none, .none, .bool false, .none] }) (od := some oq) hcl TT.hg TT.hk TT.hs TT.ha TT.hn TT.ht TT.hm, ⟨ha, rfl, rfl, ho⟩⟩
/-- isinstance(e, c) -/
theorem call_isQ : CallR X (.builtin "isinstance") (fun xs H Q => ∃ (a C : Addr) (fs : List (Str × V)) (c : V) (u : Value) (b : Bool), xs = [.ref a, c] ∧ Exq H a C fs ∧ ExcC X.K C ∧ ClsV c u ∧ PySem.W.kitOne X.K (.ref C) u = some b ∧ Q (.bl b) H) := by
  intro pz s σ H xs ua Q I r h
  obtain ⟨a, C, fs, c, u, b, rfl, ea, TT, k, e, q⟩ := h
  obtain ⟨u1, u2, rfl, ra, rb⟩ := vals2 r
  have e2 := k.eq rb
  subst e2
  cases (show u1 = Value.ref a from ra)
  obtain ⟨P, Z, p⟩ := ea.kit I TT
  exact PySem.W.kia_one Z I.kIn p e (fun z => nomatch z) fun tz => ⟨.bl b, H, I.tok tz, rfl, q⟩
/-- isinstance(e, (c1, c2, ..)) -/
theorem call_isQT : CallR X (.builtin "isinstance") (fun xs H Q => ∃ (a C : Addr) (fs : List (Str × V)) (tp : Addr) (cs : List V) (ws : List Value) (b : Bool), xs = [.ref a, .ref tp] ∧ Exq H a C fs ∧ ExcC X.K C ∧ H tp = some (.tup cs) ∧ Paired ClsV cs ws ∧ PySem.W.kitAny X.K (.ref C) ws = some b ∧ Q (.bl b) H) := by
  intro pz s σ H xs ua Q I r h
  obtain ⟨a, C, fs, tp, cs, ws, b, rfl, ea, TT, htp, k, e, q⟩ := h
  obtain ⟨u1, u2, rfl, ra, rb⟩ := vals2 r
  cases (show u2 = Value.ref tp from rb)
  cases (show u1 = Value.ref a from ra)
  obtain ⟨P, Z, p⟩ := ea.kit I TT
  obtain ⟨_, itz, rz, o, h1, h2, n, h3⟩ := (show ObjOk X.prog X.w H s.heap tp (.tup cs) from I.hok tp _ htp)
  have e3 := ClsV.all k rz
  subst e3
  obtain ⟨oc, oq, dt, sl⟩ := o
  simp only at h2 h3
  subst h2 h3
  exact PySem.W.kia_tup Z I.kIn p h1 e (fun z => nomatch z) fun tz => ⟨.bl b, H, I.tok tz, rfl, q⟩
end
end Pk
namespace Pk
open PySem L2 PySem.Spec PyProof.Rows

/-! ### data of any depth in the heap -/
/-- a key as data -/
def keyD : Key → PyData
  | .inl i => .int i
  | .inr x => .str x
mutual
/-- v is this data -/
inductive Tr (H : Hp) : V → PyData → Prop
  | non : Tr H .non .none
  | bl (b : Bool) : Tr H (.bl b) (.bool b)
  | int (i : Int) : Tr H (.int i) (.int i)
  | str (x : Str) : Tr H (.str x) (.str x)
  | lst {a : Addr} {xs : List V} {ds : List PyData} : H a = some (.lst xs) → TrAll H xs ds → Tr H (.ref a) (.list ds)
  | tup {a : Addr} {xs : List V} {ds : List PyData} : H a = some (.tup xs) → TrAll H xs ds → Tr H (.ref a) (.tuple ds)
  | dct {a : Addr} {kvs : List (Key × V)} {es : List (PyData × PyData)} : H a = some (.dK kvs) → (kvs.map (·.1)).Nodup → es.map (·.1) = kvs.map (fun p => keyD p.1) → TrAll H (kvs.map (·.2)) (es.map (·.2)) → Tr H (.ref a) (.dict es)
inductive TrAll (H : Hp) : List V → List PyData → Prop
  | nil : TrAll H [] []
  | cons {v : V} {vs : List V} {d : PyData} {ds : List PyData} : Tr H v d → TrAll H vs ds → TrAll H (v :: vs) (d :: ds)
end
mutual
theorem Tr.same {H H' : Hp} (s : Same H H') : ∀ {v : V} {d : PyData}, Tr H v d → Tr H' v d
  | _, _, .non => .non
  | _, _, .bl b => .bl b
  | _, _, .int i => .int i
  | _, _, .str x => .str x
  | _, _, .lst h a => .lst (s _ _ h) (TrAll.same s a)
  | _, _, .tup h a => .tup (s _ _ h) (TrAll.same s a)
  | _, _, .dct h n e a => .dct (s _ _ h) n e (TrAll.same s a)
theorem TrAll.same {H H' : Hp} (s : Same H H') : ∀ {vs : List V} {ds : List PyData}, TrAll H vs ds → TrAll H' vs ds
  | _, _, .nil => .nil
  | _, _, .cons h t => .cons (Tr.same s h) (TrAll.same s t)
end
theorem TrAll.length {H : Hp} : ∀ {vs : List V} {ds : List PyData}, TrAll H vs ds → vs.length = ds.length
  | _, _, .nil => rfl
  | _, _, .cons _ t => by rw [List.length_cons, List.length_cons, TrAll.length t]
theorem TrAll.get {H : Hp} : ∀ {vs : List V} {ds : List PyData} {i : Nat} {v : V}, TrAll H vs ds → vs[i]? = some v → ∃ d, ds[i]? = some d ∧ Tr H v d
  | _, _, i, v, .nil, h => by simp at h
  | _, _, 0, v, .cons h t, e => by
    cases (show some _ = some v from e)
    exact ⟨_, rfl, h⟩
  | _, _, i + 1, v, .cons h t, e => by
    exact TrAll.get (i := i) t e
theorem TrAll.snoc {H : Hp} : ∀ {vs : List V} {ds : List PyData} {v : V} {d : PyData}, TrAll H vs ds → Tr H v d → TrAll H (vs ++ [v]) (ds ++ [d])
  | _, _, _, _, .nil, one => .cons one .nil
  | _, _, _, _, .cons h t, g => .cons h (TrAll.snoc t g)
theorem TrAll.append {H : Hp} : ∀ {vs ws : List V} {ds es : List PyData}, TrAll H vs ds → TrAll H ws es → TrAll H (vs ++ ws) (ds ++ es)
  | _, _, _, _, .nil, g => g
  | _, _, _, _, .cons h t, g => .cons h (TrAll.append t g)
theorem Tr.isList {H : Hp} {v : V} {ds : List PyData} (h : Tr H v (.list ds)) : ∃ a xs, v = .ref a ∧ H a = some (.lst xs) ∧ TrAll H xs ds := by
  cases h with
  | lst h t => exact ⟨_, _, rfl, h, t⟩
theorem Tr.isTup {H : Hp} {v : V} {ds : List PyData} (h : Tr H v (.tuple ds)) : ∃ a xs, v = .ref a ∧ H a = some (.tup xs) ∧ TrAll H xs ds := by
  cases h with
  | tup h t => exact ⟨_, _, rfl, h, t⟩
theorem TrAll.rep {H : Hp} {v : V} {d : PyData} (h : Tr H v d) : ∀ n : Nat, TrAll H (List.replicate n v) (List.replicate n d)
  | 0 => .nil
  | n + 1 => .cons h (TrAll.rep h n)
/-- the keys of a dict, read -/
theorem reads_keys {P : Program} {w : World} {h : Heap} : ∀ {es : List DictEntry} {kvs : List (Key × V)} {vs : List (Key × Value)}, Pairs (mixKind P w) es vs → KV kvs vs → ReadsAll h (es.map (·.key)) (kvs.map (fun p => keyD p.1)) []
  | _, _, _, .nil, .nil => .nil
  | _, _, _, .cons hk hv t, .cons r rs => by
    have ih := reads_keys (h := h) t rs
    simp only [List.map_cons]
    refine ReadsAll.cons (as := []) (bs := []) ?_ ih
    rw [← r.1] at hk
    rcases keyIs_shape hk with ⟨i, u, e1, e2⟩ | ⟨x, u, e1, e2⟩
    · rw [e1, e2]
      exact Reads.int i u
    · rw [e1, e2]
      exact Reads.str x u
theorem vals_of_pairs {P : Program} {w : World} : ∀ {es : List DictEntry} {kvs : List (Key × V)} {vs : List (Key × Value)}, Pairs (mixKind P w) es vs → KV kvs vs → Vals (kvs.map (·.2)) (es.map (·.val))
  | _, _, _, .nil, .nil => .nil
  | _, _, _, .cons hk hv t, .cons r rs => by
    rw [List.map_cons, List.map_cons, hv]
    exact .cons r.2 (vals_of_pairs t rs)
section
variable {X : Cx} {H : Hp} {s : Shared} {σ : L2.St} {pins : List (Addr × Obj)}
mutual
theorem Tr.reads (I : L2.Inv X pins σ H s) : ∀ {v : V} {d : PyData}, Tr H v d → ∀ u : Value, RelV v u → ∃ as, Reads s.heap u d as
  | _, _, .non, u, r => by
    cases (show u = Value.none from r)
    exact ⟨_, Reads.none⟩
  | _, _, .bl b, u, r => by
    cases (show u = Value.bool b from r)
    exact ⟨_, Reads.bool b⟩
  | _, _, .int i, u, r => by
    obtain ⟨t, e⟩ := (show ∃ t, u = Value.int i t from r)
    cases e
    exact ⟨_, Reads.int i t⟩
  | _, _, .str x, u, r => by
    obtain ⟨t, e⟩ := (show ∃ t, u = Value.str x t from r)
    cases e
    exact ⟨_, Reads.str x t⟩
  | _, _, @Tr.lst _ a xs ds h al, u, r => by
    cases (show u = Value.ref a from r)
    obtain ⟨_, its, n, rv, ho⟩ := (show ObjOk X.prog X.w H s.heap a (.lst xs) from I.hok a _ h)
    obtain ⟨as, q⟩ := TrAll.reads I al its rv
    exact ⟨_, Reads.list ho rfl rfl (by simpa using q)⟩
  | _, _, @Tr.tup _ a xs ds h al, u, r => by
    cases (show u = Value.ref a from r)
    obtain ⟨_, its, rv, o, ho, hc, n, hd⟩ := (show ObjOk X.prog X.w H s.heap a (.tup xs) from I.hok a _ h)
    obtain ⟨as, q⟩ := TrAll.reads I al its rv
    exact ⟨_, Reads.tuple ho hc hd (by simpa using q)⟩
  | _, _, @Tr.dct _ a kvs es h nd ek al, u, r => by
    cases (show u = Value.ref a from r)
    obtain ⟨_, _, vs, rel, o, des, ep, ho, hx, hd, _, pr, _⟩ := (show ObjOk X.prog X.w H s.heap a (.dK kvs) from I.hok a _ h)
    obtain ⟨bs, q⟩ := TrAll.reads I al _ (vals_of_pairs pr rel)
    exact ⟨_, Reads.dict ho hx.1 hd (by rw [ek]; exact reads_keys pr rel) q⟩
theorem TrAll.reads (I : L2.Inv X pins σ H s) : ∀ {vs : List V} {ds : List PyData}, TrAll H vs ds → ∀ us : List Value, Vals vs us → ∃ as, ReadsAll s.heap us ds as
  | _, _, .nil, us, r => by
    cases r
    exact ⟨_, ReadsAll.nil⟩
  | _, _, .cons h t, us, r => by
    cases r with
    | cons r1 r2 =>
      obtain ⟨as, q1⟩ := Tr.reads I h _ r1
      obtain ⟨bs, q2⟩ := TrAll.reads I t _ r2
      exact ⟨as ++ bs, .cons q1 q2⟩
end
end
/-- data without lists and dicts in it that stand at an address of their own -/
def plainD : PyData → Bool
  | .int _ | .str _ | .none | .bool _ => true
  | _ => false
def plainAll : (ds : List PyData) → Bool
  | [] => true
  | d :: ds => plainD d && plainAll ds
/-- a dict of plain things -/
def flatDict : PyData → Bool
  | .dict es => plainAll (es.map (·.2))
  | _ => false
section
variable {X : Cx} {H : Hp} {s : Shared} {σ : L2.St} {pins : List (Addr × Obj)}
theorem plain_reads {h : Heap} : ∀ {us : List Value} {ds : List PyData} {as : List Addr}, ReadsAll h us ds as → plainAll ds = true → as = []
  | _, _, _, .nil, _ => rfl
  | _, _, _, .cons hd tl, e => by
    rw [plainAll, Bool.and_eq_true] at e
    have ih := plain_reads tl e.2
    subst ih
    cases hd with
    | none => rfl
    | bool b => rfl
    | int i t => rfl
    | str x t => rfl
    | list _ _ _ _ => exact absurd e.1 (by simp [plainD])
    | tuple _ _ _ _ => exact absurd e.1 (by simp [plainD])
    | dict _ _ _ _ _ => exact absurd e.1 (by simp [plainD])
/-- flat dicts side by side lie at no address that the system keeps -/
theorem TrAll.flat (I : L2.Inv X pins σ H s) : ∀ {vs : List V} {ds : List PyData}, TrAll H vs ds → (∀ d ∈ ds, flatDict d = true) → ∀ us : List Value, Vals vs us → ∃ as, ReadsAll s.heap us ds as ∧ sysModules ∉ as
  | _, _, .nil, _, us, r => by
    cases r
    exact ⟨_, ReadsAll.nil, by simp⟩
  | _, _, @TrAll.cons _ v vs d ds h t, f, us, r => by
    cases r with
    | cons r1 r2 =>
      rename_i u us
      obtain ⟨bs, q2, n2⟩ := TrAll.flat I t (fun d hd => f d (List.mem_cons_of_mem _ hd)) _ r2
      have fd := f d List.mem_cons_self
      cases h with
      | non => cases fd
      | bl b => cases fd
      | int i => cases fd
      | str x => cases fd
      | lst _ _ => cases fd
      | tup _ _ => cases fd
      | @dct a kvs es h nd ek al =>
        cases (show u = Value.ref a from r1)
        obtain ⟨_, hsys, vs, rel, o, des, ep, ho, hx, hd, _, pr, _⟩ := (show ObjOk X.prog X.w H s.heap a (.dK kvs) from I.hok a _ h)
        obtain ⟨cs, q⟩ := TrAll.reads I al _ (vals_of_pairs pr rel)
        have ec := plain_reads q fd
        subst ec
        refine ⟨_, ReadsAll.cons (Reads.dict ho hx.1 hd (by rw [ek]; exact reads_keys pr rel) q) q2, ?_⟩
        intro z
        rcases List.mem_append.mp z with z | z
        · have z' : sysModules = a := by simpa using z
          rw [z'] at hsys
          simp at hsys
        · exact n2 z
end
/-- repr of a list, where what stands in it lies at no address that the system keeps -/
theorem repr_listD {prog : Program} {w : World} {A : Around} {E : Value → Shared → Prop} {s : Shared} {Q : Value → Shared → Prop} {a : Addr} {o : Obj} {vs : List Value} {n : Nat} {xs : List PyData} {as : List Addr}
    (h1 : s.heap.get? a = some o) (h2 : o.cls = .type "list") (h3 : o.data = .seq vs.toArray n) (h4 : ReadsAll s.heap vs xs as) (hs : PyData.showableAll xs = true) (hm : PyData.hasDictAll xs = true → sysModules ∉ as) (hg : A.guards = some [])
    (hu : A.units + (PyData.depth (.list xs) + 1) < cLine) (hsz : (PyData.shown (.list xs)).length ≤ sizeLine)
    (hQ : ∀ h' u tk, (∀ b o, s.heap.get? b = some o → h'.get? b = some o) → Q (.str (PyData.shown (.list xs)) u) { s with heap := h', toks := tk }) : wpAny (model prog w) A (call (.builtin "repr") [.ref a]) Q E s := by
  have zl : (listText (PyData.shownAll xs)).length ≤ sizeLine := by simpa only [PyData.shown] using hsz
  obtain ⟨bs, hb, hk⟩ := ReprAllK.of_readsAll (prog := prog) (w := w) h4 hs hm (fun t ht => Nat.le_trans (listText_mem_le ht) zl)
  have r0 : Reads s.heap (.ref a) (.list xs) (a :: as) := Reads.list h1 h2 h3 (by simpa using h4)
  have na : a ∉ bs := not_mem_of_deeper r0 (by simp only [PyData.depth]; omega) hb
  simp only [PyData.depth] at hu; simp only [PyData.shown] at hQ
  refine call_repr_slot (by omega) ⟨o, h1, h2⟩ F.slot_list_repr.toG ?_
  cases vs with
  | nil =>
    cases h4
    simp only [listText_nil, PyData.shownAll] at hQ
    exact call_list_repr_empty ⟨o, h1, h2⟩ h1 h3 ⟨_, _, rfl, hQ s.heap _ _ fun _ _ e => e⟩
  | cons x l =>
    exact call_list_reprK (h₀ := s.heap) h1 h2 h3 na (by simpa using hk.length_eq) (fun i y e => hk.item i y (by simpa using e)) hg (fun b _ => Clear.nil b) (by show A.units + 1 + (PyData.depthAll xs + 1) < cLine; omega) (fun _ _ e => e) (fun h' u tk k => ⟨_, _, rfl, hQ h' u tk k⟩) zl
/-- repr(xs), xs a list: things without dicts, or flat dicts alone -/
theorem call_reprL {X : Cx} (hg : X.A.guards = some []) (hu : X.A.units + 100 < cLine) : CallR X (.builtin "repr") (fun xs H Q => ∃ (a : Addr) (zs : List V) (ds : List PyData), xs = [.ref a] ∧ H a = some (.lst zs) ∧ TrAll H zs ds ∧ (PyData.hasDictAll ds = false ∨ ∀ d ∈ ds, flatDict d = true) ∧
    PyData.showableAll ds = true ∧ PyData.depthAll ds ≤ 60 ∧ (PyData.shown (.list ds)).length ≤ sizeLine ∧ Q (.str (PyData.shown (.list ds))) H) := by
  intro pz s σ H xs ua Q I r h
  obtain ⟨a, zs, ds, rfl, ha, al, hd, hs, hdep, hsz, q⟩ := h
  obtain rfl := Vals.ref1 r
  obtain ⟨_, its, n, rv, ho⟩ := (show ObjOk X.prog X.w H s.heap a (.lst zs) from I.hok a _ ha)
  have key : ∃ as, ReadsAll s.heap its ds as ∧ (PyData.hasDictAll ds = true → sysModules ∉ as) := by
    rcases hd with hd | hd
    · obtain ⟨as, q⟩ := TrAll.reads I al its rv
      exact ⟨as, q, fun z => by rw [hd] at z; cases z⟩
    · obtain ⟨as, q, nq⟩ := TrAll.flat I al hd its rv
      exact ⟨as, q, fun _ => nq⟩
  obtain ⟨as, q4, hm⟩ := key
  refine repr_listD ho rfl rfl q4 hs hm hg (by simp only [PyData.depth]; omega) hsz fun h' u tk k => ?_
  exact ⟨.str _, H, I.kept (t' := tk) k, ⟨u, rfl⟩, q⟩
end Pk
namespace Pk
open PySem L2
/-! ### written data: an expression that makes new things alone -/
/-- what of H' is new -/
def newP (H H' : Hp) : Hp := fun b => match H b with
  | none => H' b
  | some _ => none
theorem newP_at {H H' : Hp} {b : Addr} (h : H b = none) : newP H H' b = H' b := by
  unfold newP
  rw [h]
theorem newP_some {H H' : Hp} {b : Addr} {o : HO} (h : newP H H' b = some o) : H b = none ∧ H' b = some o := by
  unfold newP at h
  cases e : H b with
  | none =>
    rw [e] at h
    exact ⟨rfl, h⟩
  | some u =>
    rw [e] at h
    cases h
theorem newP_grow {H H1 H2 : Hp} (s : Same H1 H2) : Same (newP H H1) (newP H H2) := fun b o e => by
  obtain ⟨h1, h2⟩ := newP_some e
  rw [newP_at h1]
  exact s b o h2
theorem newP_back {H H1 H2 : Hp} (s : Same H H1) : Same (newP H1 H2) (newP H H2) := fun b o e => by
  obtain ⟨h1, h2⟩ := newP_some e
  rw [newP_at (s.free h1)]
  exact h2
theorem newP_all {H H' : Hp} : Same (newP H H') H' := fun b o e => (newP_some e).2
/-- new things are no place that was there -/
theorem newP_del {H H' : Hp} {p : Addr} {o : HO} (h : H p = some o) : Same (newP H H') (del H' p) := fun b u e => by
  obtain ⟨h1, h2⟩ := newP_some e
  rw [del_ne (fun z => by rw [z, h] at h1; cases h1)]
  exact h2
def tD (d : PyData) : TE := fun _ H Q => ∀ v H', Same H H' → Tr (newP H H') v d → Q v H'
def tDs (ds : List PyData) : TA := fun _ H Q => ∀ vs H', Same H H' → TrAll (newP H H') vs ds → Q vs H'
section
variable {X : Cx} {e : Expr} {es : List Expr} {d : PyData} {ds : List PyData} {pos p1 p2 : Pos} {j : Nat}
theorem peW {t t' : TE} (h : PE X e t) (f : ∀ σ H Q, t' σ H Q → t σ H Q) : PE X e t' := ⟨fun pz s σ H Q I q => h.run pz s σ H Q I (f σ H Q q)⟩
theorem paW {t t' : TA} (h : PA X es t) (f : ∀ σ H Q, t' σ H Q → t σ H Q) : PA X es t' := ⟨fun po pz s σ H Q I q => h.run po pz s σ H Q I (f σ H Q q)⟩
theorem pd_int {i : Int} (h : PE X e (tC (.int i))) : PE X e (tD (.int i)) := peW h fun _ H Q q => q _ H (Same.refl _) (.int i)
theorem pd_str {i : Str} (h : PE X e (tC (.str i))) : PE X e (tD (.str i)) := peW h fun _ H Q q => q _ H (Same.refl _) (.str i)
theorem pd_bl {i : Bool} (h : PE X e (tC (.bl i))) : PE X e (tD (.bool i)) := peW h fun _ H Q q => q _ H (Same.refl _) (.bl i)
theorem pd_non (h : PE X e (tC .non)) : PE X e (tD .none) := peW h fun _ H Q q => q _ H (Same.refl _) .non
theorem pd_nil : PA X [] (tDs []) := paW pa_nil fun _ H Q q => q [] H (Same.refl _) .nil
theorem pd_cons (h : PE X e (tD d)) (t : PA X es (tDs ds)) (hs : starEach (e :: es) X.env = (false, eval e X.env) :: starEach es X.env := by rfl) : PA X (e :: es) (tDs (d :: ds)) := by
  refine paW (pa_cons h t hs) fun σ H Q q => ?_
  intro v H1 s1 r1 vs H2 s2 r2
  exact q (v :: vs) H2 (s1.trans s2) (.cons (r1.same (newP_grow s2)) (r2.same (newP_back s1)))
theorem pd_tup {x1} (h : PA X es (tDs ds)) (hl : ds.length ≤ 1000 := by decide) : PE X (.Tuple es x1 pos) (tD (.tuple ds)) := by
  refine peW (pe_tup h) fun σ H Q q => ?_
  intro vs H1 s1 r1
  have e1 : vs.length ≤ sizeLine := Nat.le_of_lt (small1000 (by rw [r1.length]; exact hl))
  refine ⟨e1, fun p hp => ?_⟩
  have s2 := sameNew hp (.tup vs)
  refine q (.ref p) _ (s1.trans s2) (.tup ?_ (r1.same (newP_grow s2)))
  rw [newP_at (s1.free hp), upd_same]
theorem pd_lst (h : PA X es (tDs ds)) (hl : ds.length ≤ 1000 := by decide) : PE X (.List es pos) (tD (.list ds)) := by
  refine peW (pe_lst h) fun σ H Q q => ?_
  intro vs H1 s1 r1
  have e1 : vs.length ≤ sizeLine := Nat.le_of_lt (small1000 (by rw [r1.length]; exact hl))
  refine ⟨e1, fun p hp => ?_⟩
  have s2 := sameNew hp (.lst vs)
  refine q (.ref p) _ (s1.trans s2) (.lst ?_ (r1.same (newP_grow s2)))
  rw [newP_at (s1.free hp), upd_same]
theorem pd_d0 : PE X (.Dict [] [] pos) (tD (.dict [])) := by
  refine peW pe_dnewK fun σ H Q q => ?_
  intro p hp
  refine q (.ref p) _ (sameNew hp _) (.dct (kvs := []) ?_ List.nodup_nil rfl .nil)
  rw [newP_at hp, upd_same]
/-- {'a': 0} -/
theorem pd_d1 {k : Str} {i : Int} {po : Pos} {kx vx : Expr} (hk : PE X kx (tC (.str k))) (hv : PE X vx (tC (.int i))) : PE X (.Dict [some kx] [vx] po) (tD (.dict [(.str k, .int i)])) := by
  refine peW (pe_disp (pps_cons hk hv pps_nil) (by rfl) (by rfl) (fun z => by cases z) (by show 1 ≤ 15; decide)) fun σ H Q q => ?_
  intro p hp
  refine ⟨upd_same, [(Sum.inr k, .int i)], rfl, (by show 1 ≤ 15; decide), ?_⟩
  rw [upd_upd]
  refine q (.ref p) _ (sameNew hp _) (.dct (kvs := [(Sum.inr k, .int i)]) ?_ (by simp) rfl (.cons (.int i) .nil))
  rw [newP_at hp, upd_same]
  rfl
/-- 10 ** 18 and the like -/
theorem pd_pow {a b : Expr} {i k : Int} (ha : PE X a (tC (.int i))) (hb : PE X b (tC (.int k))) (h : CPow i k := by exact ⟨by decide, by decide, by decide⟩) : PE X (.BinOp a .Pow b pos) (tC (.int (i ^ k.toNat))) :=
  peW (pe_op op_pow ha hb) fun σ H Q q => ⟨_, _, rfl, rfl, h, q⟩
theorem pd_neg {a : Expr} {i : Int} (ha : PE X a (tC (.int i))) : PE X (.UnaryOp .USub a pos) (tC (.int (-i))) :=
  peW (pe_un un_neg ha) fun σ H Q q => ⟨_, rfl, q⟩
end
end Pk
namespace Pk
open PySem L2 PySem.Spec PyProof.Rows
/-! ### defs that are run where no text of a list is under way (for repr) -/
/-- the def at f keeps sp, where no repr is under way -/
structure FnG (P : Program) (w : World) (K : PySem.W.Frag) (mg : Str → Option Value) (bs : Heap) (k : Nat) (f : Addr) (fd : FuncData) (ps : List Str) (sp : Sp) : Prop where
  len : ∀ va H Q E, sp va H Q E → va.length = ps.length
  run : ∀ (A : Around) (out : List Env) (s : Shared) (H : Hp) (ar : Args) (ua : List Value) (va : List V) (Q : VK) (E : XK), A.guards = some [] → Room k A → Env0 P w K mg bs A out s H → BindsTo s fd ar (ps.zip ua) → Vals va ua → sp va H Q E →
    codeAny (model P w) A (.call (.ref f) ar) (CR CX0 out P w H s Q E) s
theorem Fun.okG {P : Program} {w : World} {K : PySem.W.Frag} {mg : Str → Option Value} {bs : Heap} {x ql : Str} {st : Stmt} {f : Addr} {fd : FuncData} {N ps : List Str} {k : Nat} {sp : Sp} (F : Fun K x ql st f fd) (S : FnScope N ps (defScope st)) (len : ∀ va H Q E, sp va H Q E → va.length = ps.length)
    (hbd : ∀ (cv : Value) (A : Around) (out : List Env) (s : Shared) (H : Hp) (va : List V) (Q : VK) (E : XK), A.guards = some [] → Room k (A.deeper (envOfC ql (defScope st) s.heap.objs.size f cv)) → sp va H Q E →
      ∃ t, PSs (cxOf CX0 P w K mg bs N ql (defScope st) f cv A out s H E).nox (defBody st) t ∧ t { nx := fun _ H' => Q .non H', rt := Q } (L2.start N va) H) : FnG P w K mg bs (k + 1) f fd ps sp := by
  obtain ⟨oc, oq, kV, doc, pm, an, cv, ct, osl, rfl, lk, hcd⟩ := F.ex
  refine ⟨len, fun A out s H ar ua va Q E hgd hr ez hbt rr hq => ?_⟩
  have hlen := len _ _ _ _ hq
  have inK : K.In s.heap := ez.mod.kin.keeps fun b o e => (ez.bs b o e).1
  have noL : s.heap.NoLimit := ez.mod.nolimit.keeps fun b o e => (ez.bs b o e).1
  refine codeAny_call_function hr.depth (inK _ _ lk) rfl S.co S.gen rfl (PySem.W.codeRec_of inK hcd) (hbt _ _ _ _ (wpAny_newFunctionEnv_cells S.kind (fun ⟨n, v⟩ hy => ?_) fun env he sz xx => ?_))
  · rcases S.par n (List.of_mem_zip hy).1 with z | z
    · exact .inl z
    · exact .inr ⟨z, PySem.W.cellsFrom_some _ _ _ (.inl z)⟩
  · subst he
    refine ⟨noL.keeps xx.toInCall.keep, codeAny_func ?_⟩
    obtain ⟨t, ht, hw⟩ := hbd cv A out s H va Q E hgd (hr.deeper _) hq
    have J : L2.Inv (cxOf CX0 P w K mg bs N ql (defScope st) f cv A out s H E) [] (L2.start N va) H sz := inv_start S hr.hd ez hlen rr xx
    refine wpAny_mono (ht.nox.run [] sz _ H _ J hw) (fun fl sy hy => ?_) fun e sy hy => hy
    cases fl with
    | ret u =>
      obtain ⟨v, σy, Hy, Jy, rv, qy⟩ := hy
      exact ⟨v, Hy, Jy.os, Jy.bare, Jy.base, Jy.hok, rv, qy⟩
    | next =>
      obtain ⟨σy, Hy, Jy, qy⟩ := hy
      exact ⟨.non, Hy, Jy.os, Jy.bare, Jy.base, Jy.hok, rfl, qy⟩
    | brk =>
      obtain ⟨_, _, _, qy⟩ := hy
      exact qy.elim
    | cont =>
      obtain ⟨_, _, _, qy⟩ := hy
      exact qy.elim
/-- f(e, ..) of such a def, where no repr is under way -/
theorem pe_callG {X : Cx} {k : Nat} {f : Addr} {fd : FuncData} {ps : List Str} {sp : Sp} {x : Str} {p pos : Pos} {e : Expr} {es : List Expr} {t : TA} (hgd : X.A.guards = some []) (G : FnG X.prog X.w X.K X.mg X.base k f fd ps sp) (hr : Room k X.A) (hg : Gl X x) (hm : X.mg x = some (.ref f)) (hk : PySem.W.keepIn X.K (.ref f) = true)
    (hb : Binds X.K fd ps []) (ha : PA X (e :: es) t) (hdg : (x == ("__debug__" : Str)) = false := by decide) (he : starEach (e :: es) X.env = (false, eval e X.env) :: starEach es X.env := by rfl) (hpz : (backTo pos (starEach es X.env)).any (·.1) = false := by rfl) :
    PE X (.Call (.Name x p) (e :: es) [] pos) (fun σ H Q => t σ H fun va Ha => sp va Ha Q fun _ _ _ => False) := by
  refine ⟨fun pz s σ H Q I hq => wpAny_Call_Name_kw (ld_glob I hg hm (PySem.W.callWith_K (h₀ := X.base) I.ok.mod.kin hk (thn (ha.run pos pz s σ H _ I hq) fun ua sa ⟨va, Ha, Ia, ra, qa⟩ => ⟨Ia.kIn, ?_⟩) he hpz) hdg)⟩
  have hlen : ua.length = ps.length := by
    rw [← ra.length]
    exact G.len _ _ _ _ qa
  have bt := hb sa ua Ia.kIn (by rw [List.append_nil]; exact hlen)
  rw [List.append_nil] at bt
  refine wpAny_call (codeAny_mono (G.run X.A X.stack sa Ha ⟨ua, []⟩ ua va Q (fun _ _ _ => False) hgd hr Ia.env0 bt ra qa) fun rr sy hy => ?_)
  cases rr with
  | error ee => exact hy.elim
  | ok fl =>
    cases fl with
    | ret u => exact Ia.after hy
    | next => exact hy.elim
    | brk => exact hy.elim
    | cont => exact hy.elim
/-- the law's call from outside: at the heap behind the top nothing but the script is tracked -/
theorem lawG {P : Program} {w : World} {K : PySem.W.Frag} {mg mb : Str → Option Value} {k : Nat} {fa a : Addr} {fd : FuncData} {x : Str} {sp : Sp} {sz : Shared} {va : List Value} {ns : List Int}
    (inK : K.In sz.heap) (hn : sz.heap.Ns mainGlobals mg) (hbn : sz.heap.Ns builtinsNs mb) (hbb : ∀ x : Str, x ≠ "__name__" → mb x = bootBuiltins x) (noL : sz.heap.NoLimit) (hgn : sz.gens = #[])
    (ha : sz.heap.get? a = some { cls := .type "list", data := .seq va.toArray }) (hi : IntsAre va ns) (hl : ns.length ≤ sizeLine) (hr : Room k callerA)
    (G : ∀ bs : Heap, K.In bs → bs.Ns mainGlobals mg → FnG P w K mg bs k fa fd [x] sp) (hbt : ∀ (s : Shared) (u : Value), BindsTo s fd ⟨[u], []⟩ [(x, u)])
    (hq : ∀ H : Hp, SqL K H a (ns.map V.int) → sp [.ref a] H (fun v _ => v = .bl true) fun _ _ _ => False) :
    codeAny (model P w) callerA (.call (.ref fa) ⟨[.ref a], []⟩) (fun r s' => r = .ok (.ret (.bool true)) ∧ OldK sz.heap s'.heap ∧ s'.os = sz.os ∧ AllBare s'.gens) sz := by
  have rr := vals_ints hi
  have ln := hi.length
  have main : ∀ H : Hp, L2.Only H → SqL K H a (ns.map V.int) → HOk P w H sz.heap → (∀ b, H b ≠ none → b = a) → (H a ≠ none → K.lookup a = none) →
      codeAny (model P w) callerA (.call (.ref fa) ⟨[.ref a], []⟩) (fun r s' => r = .ok (.ret (.bool true)) ∧ OldK sz.heap s'.heap ∧ s'.os = sz.os ∧ AllBare s'.gens) sz := by
    intro H only hS hok hA hK
    have isA : ∀ {b : Addr} {u : HO}, H b = some u → b = a := fun {b u} z => hA b (by rw [z]; simp)
    have free : ∀ {b : Addr} {o : Obj} {es : Array DictEntry} {ep : Nat}, sz.heap.get? b = some o → o.data = .dict es ep → H b = none := fun {b o es ep} e d => by
      cases z : H b with
      | none => rfl
      | some u =>
        have eb := isA z
        subst eb
        rw [ha] at e
        cases e
        cases (show Data.seq va.toArray _ = Data.dict es ep from d)
    have nsB : ∀ {b : Addr} {m : Str → Option Value}, sz.heap.Ns b m → (hidT sz.heap H).Ns b m := fun {b m} ⟨o, es, ep, e, d, z⟩ => ⟨o, es, ep, hidT_get e (free e d), d, z⟩
    have kB : K.In (hidT sz.heap H) := fun b o e => hidT_get (inK b o e) (by
      cases z : H b with
      | none => rfl
      | some u =>
        have eb := isA z
        subst eb
        rw [hK (by rw [z]; simp)] at e
        cases e)
    have md : Mod K mg (hidT sz.heap H) := ⟨kB, nsB hn, ⟨mb, nsB hbn, hbb⟩, let ⟨mc, z1, z2⟩ := noL; ⟨mc, nsB z1, z2⟩⟩
    have ez : Env0 P w K mg (hidT sz.heap H) callerA [] sz H := ⟨rfl, md, fun b o e => of_hidT e, Nat.le_of_eq (hidT_size _ _), trivial, fun b hb => absurd (show b ∈ ([] : List Addr) from hb) (by simp), hok, .of_eq hgn⟩
    refine codeAny_mono ((G _ kB (nsB hn)).run callerA [] sz H ⟨[.ref a], []⟩ [.ref a] [.ref a] _ _ rfl hr ez (hbt sz (.ref a)) (.cons rfl .nil) (hq H hS)) fun rz sy hy => ?_
    cases rz with
    | error e => exact hy.elim
    | ok fl =>
      cases fl with
      | next => exact hy.elim
      | brk => exact hy.elim
      | cont => exact hy.elim
      | ret u =>
        obtain ⟨v, Hy, osy, bry, un, oky, rv, qy⟩ := hy
        cases (show v = .bl true from qy)
        cases (show u = Value.bool true from rv)
        refine ⟨rfl, OldK.of_keep fun b o e => ?_, osy, bry⟩
        cases z : H b with
        | none => exact un.keep b o e z (fun q => absurd (show b ∈ ([] : List Addr) from q) (by simp)) (by simp)
        | some u =>
          rcases only b with q | ⟨ob, xs, q⟩
          · rw [z] at q
            cases q
          · obtain ⟨g1, _⟩ := hok b _ q
            obtain ⟨g2, _⟩ := oky b _ (un.frzs b ob _ q)
            rw [e] at g1
            cases g1
            exact g2
  cases hk : K.lookup a with
  | some o =>
    have e := inK a o hk
    rw [ha] at e
    cases e
    exact main (fun _ => none) (fun _ => .inl rfl) (.inr ⟨_, va.toArray, _, hk, rfl, rfl, rfl, by rw [List.size_toArray, ln]; exact hl, by simpa using rr⟩) (fun b u z => by cases (show (none : Option HO) = some u from z)) (fun b z => absurd rfl z) fun z => absurd rfl z
  | none =>
    refine main (fun b => if b = a then some (.frz { cls := .type "list", data := .seq va.toArray } (.lst (ns.map V.int))) else none) (fun b => ?_) (.inl (.inr ⟨{ cls := .type "list", data := .seq va.toArray }, if_pos rfl⟩)) (fun b u z => ?_) (fun b z => ?_) fun _ => hk
    · by_cases hb : b = a
      · right; exact ⟨_, _, if_pos hb⟩
      · exact .inl (if_neg hb)
    · by_cases hb : b = a
      · cases (if_pos hb).symm.trans z
        subst hb
        exact ⟨ha, by rw [List.length_map]; exact hl, va, _, rr, ha⟩
      · cases (if_neg hb).symm.trans z
    · by_cases hb : b = a
      · exact hb
      · exact absurd (if_neg hb) z
/-- the goal that the head leaves, from the law's promise -/
theorem walkG {l : PySem.W.OpenLaw} {n k : Nat} {q : Program} {loose : List Str} {XP : (Str → Option Value) → Heap → Prop} {YP : World → Heap → Prop} {d : DefRec} {K : Params → PySem.W.Frag} {sp : PySem.W.Frag → Sp} {x : Str}
    (hr : Room k callerA) (hn : l.most = some n) (hn2 : n ≤ sizeLine) (hdf : d.params.defaults = []) (hY : ∀ (w : World) (h : Heap), YP w h → (K w.params).In h)
    (G : ∀ (w : World) (mg : Str → Option Value) (fa : Addr) (h : Heap), (K w.params).In h → h.Ns mainGlobals mg → mg d.name = some (.ref fa) →
      ∃ fd : FuncData, (∀ (s : Shared) (u : Value), BindsTo s fd ⟨[u], []⟩ [(x, u)]) ∧ ∀ bs : Heap, (K w.params).In bs → bs.Ns mainGlobals mg → FnG l.prog w (K w.params) mg bs k fa fd [x] (sp (K w.params)))
    (hq : ∀ (K : PySem.W.Frag) (H : Hp) (a : Addr) (ns : List Int), ns.length ≤ n → SqL K H a (ns.map V.int) → sp K [.ref a] H (fun v _ => v = .bl true) fun _ _ _ => False) :
    PySem.W.WalkO q loose XP YP l.row.toRowW d [] (fun f va => PySem.call f va) := by
  refine Att.attach_call hn hdf fun w sy sz mg mb fa o pm cd doc a va ns Gr Y ho hd hcd hmg hob hin hle hgn => ?_
  have inK := hY w _ Y
  obtain ⟨fd, hbt, hG⟩ := G w mg fa _ inK Gr.T.g hmg
  exact lawG inK Gr.T.g Gr.T.b Gr.T.builtins Gr.T.nolimit hgn hob hin (Nat.le_trans hle hn2) hr hG hbt fun H hS => hq _ H a ns hle hS
end Pk
/-! a dict is no text -/
namespace Pk
open PySem PySem.SeqAt PySem.MeetsSeq PySem.AutoSeq1
theorem strNoDict (b : Str) (u : Tok) (l : Addr) (es : Array DictEntry) (n : Nat) (dd : Option Addr) (sl : Array (Option Value)) :
    Meets (Builtin.«str.__eq__» ⟨[.str b u, .ref l], []⟩) (fun _ R s => s.heap.get? l = some { cls := .type "dict", dict := dd, data := .dict es n, slots := sl } ∧ R (.ok (.ret .notImplemented)) s) :=
  .of_wp fun prog w A R s h => by
    obtain ⟨hp, g, d, tk, os⟩ := s
    obtain ⟨hl, h⟩ := h
    wp_walk using wpAny_loadPart' hl, wpAny_load hl
    exact ⟨_, rfl, h⟩
theorem dictNoStr (b : Str) (u : Tok) (l : Addr) (es : Array DictEntry) (n : Nat) (dd : Option Addr) (sl : Array (Option Value)) :
    Meets (Builtin.«dict.__eq__» ⟨[.ref l, .str b u], []⟩) (fun _ R s => s.heap.get? l = some { cls := .type "dict", dict := dd, data := .dict es n, slots := sl } ∧ R (.ok (.ret .notImplemented)) s) :=
  .of_wp fun prog w A R s h => by
    obtain ⟨hp, g, d, tk, os⟩ := s
    obtain ⟨hl, h⟩ := h
    wp_walk using wpAny_loadPart' hl, wpAny_load hl
    refine wpAny_of_eq (a := false) F.sub_str_dict ?_
    wp_walk using wpAny_loadPart' hl, wpAny_load hl
    exact ⟨_, rfl, h⟩
section
variable {A : Around} {s : Shared}
theorem rcStrDict {l : Addr} {es : Array DictEntry} {n : Nat} {dd : Option Addr} {sl : Array (Option Value)} (b : Str) (u : Tok) (hl : s.heap.get? l = some { cls := .type "dict", dict := dd, data := .dict es n, slots := sl }) (hu : A.units < cLine) : RcAt A s (.str b u) (.ref l) false := fun prog w E Q h =>
  rc_eq_decline_or (k := false) (typeIs_str s b u) ⟨_, hl, rfl⟩ (by decide) F.sub_dict_str F.slot_str_eq F.slot_dict_eq_refl
    (fun _ q => call_meets F.slot_str_eq (typeIs_str s b u) F.entry_str_eq (F.args_str_eq_2 _ _) (strNoDict b u l es n dd sl) ⟨hl, q⟩)
    (fun _ q => call_meets F.slot_dict_eq_refl ⟨_, hl, rfl⟩ F.entry_dict_eq (F.args_dict_eq_2 _ _) (dictNoStr b u l es n dd sl) ⟨hl, q⟩)
    (fun _ q => wpAny_of_eq (rfl : isSame (.str b u) (.ref l) = pure false) q) (.inr hu) h
theorem rcDictStr {l : Addr} {es : Array DictEntry} {n : Nat} {dd : Option Addr} {sl : Array (Option Value)} (b : Str) (u : Tok) (hl : s.heap.get? l = some { cls := .type "dict", dict := dd, data := .dict es n, slots := sl }) (hu : A.units < cLine) : RcAt A s (.ref l) (.str b u) false := fun prog w E Q h =>
  rc_eq_decline_or (k := false) ⟨_, hl, rfl⟩ (typeIs_str s b u) (by decide) F.sub_str_dict F.slot_dict_eq F.slot_str_eq_refl
    (fun _ q => call_meets F.slot_dict_eq ⟨_, hl, rfl⟩ F.entry_dict_eq (F.args_dict_eq_2 _ _) (dictNoStr b u l es n dd sl) ⟨hl, q⟩)
    (fun _ q => call_meets F.slot_str_eq_refl (typeIs_str s b u) F.entry_str_eq (F.args_str_eq_2 _ _) (strNoDict b u l es n dd sl) ⟨hl, q⟩)
    (fun _ q => wpAny_of_eq (rfl : isSame (.ref l) (.str b u) = pure false) q) (.inr hu) h
theorem eqStrDict {l : Addr} {es : Array DictEntry} {n : Nat} {dd : Option Addr} {sl : Array (Option Value)} (b : Str) (u : Tok) (hl : s.heap.get? l = some { cls := .type "dict", dict := dd, data := .dict es n, slots := sl }) (hu : A.units < cLine) : EqAt A s (.str b u) (.ref l) false := fun prog w E Q h => by
  unfold eqBool
  exact wpAny_holding (wpAny_ite_split (fun hab => absurd (eq_of_beq hab) nofun) fun _ => wpAny_bind (rcStrDict b u hl hu prog w E _ (wpAny_truthy_bool h)))
end
end Pk
namespace Pk
open PySem L2
/-- the data is this text -/
def strIs (y : Str) : PyData → Bool
  | .str z => y == z
  | _ => false
section
variable {X : Cx} {pz : List (Addr × Obj)} {σ : L2.St} {H : Hp} {s : Shared} {A : Around} {x : V} {d : PyData} {v : Value}
theorem Tr.eqStr (I : L2.Inv X pz σ H s) (t : Tr H x d) (r : RelV x v) (hu : A.units < cLine) (y : Str) (u : Tok) : SeqAt.EqAt A s (.str y u) v (strIs y d) := by
  cases t with
  | non => cases (show v = .none from r); exact SeqAt.EqAt.str_none y u
  | bl b => cases (show v = .bool b from r); exact SeqAt.EqAt.str_bool y u b
  | int i => obtain ⟨k, e⟩ := (show ∃ k, v = .int i k from r); cases e; exact SeqAt.EqAt.str_int y u i k
  | str z => obtain ⟨k, e⟩ := (show ∃ k, v = .str z k from r); cases e; exact SeqAt.EqAt.str_str y u z k
  | @lst a xs ds h al =>
    cases (show v = .ref a from r)
    obtain ⟨_, its, n, rv, ho⟩ := (show ObjOk X.prog X.w H s.heap a (.lst xs) from I.hok a _ h)
    exact SeqAt.EqAt.str_list y u ⟨_, ho, rfl, n, rfl⟩ hu
  | @tup a xs ds h al =>
    cases (show v = .ref a from r)
    obtain ⟨_, its, rv, ho⟩ := (show ObjOk X.prog X.w H s.heap a (.tup xs) from I.hok a _ h)
    exact SeqAt.EqAt.str_tuple y u ho hu
  | @dct a kvs es h nd ek al =>
    cases (show v = .ref a from r)
    obtain ⟨_, _, vs, rel, ⟨oc, od, odt, osl⟩, des, ep, ho, hx, hd, _⟩ := (show ObjOk X.prog X.w H s.heap a (.dK kvs) from I.hok a _ h)
    obtain ⟨x1, x2, x3⟩ := hx
    dsimp only at x1 x2 x3 hd
    subst x1 x2 x3 hd
    exact eqStrDict y u ho hu
theorem Tr.rcStr (I : L2.Inv X pz σ H s) (t : Tr H x d) (r : RelV x v) (hu : A.units < cLine) (y : Str) (u : Tok) : SeqAt.RcAt A s v (.str y u) (strIs y d) := by
  cases t with
  | non => cases (show v = .none from r); exact SeqAt.RcAt.none_str y u
  | bl b => cases (show v = .bool b from r); exact SeqAt.RcAt.bool_str b y u
  | int i => obtain ⟨k, e⟩ := (show ∃ k, v = .int i k from r); cases e; exact SeqAt.RcAt.int_str i k y u
  | str z =>
    obtain ⟨k, e⟩ := (show ∃ k, v = .str z k from r)
    cases e
    have q := SeqAt.RcAt.str_str (A := A) (s := s) z k y u
    have e : strIs y (.str z) = (z == y) := by
      show (y == z) = (z == y)
      by_cases h : y = z
      · subst h; rfl
      · rw [beq_eq_false_iff_ne.mpr h, beq_eq_false_iff_ne.mpr (Ne.symm h)]
    rw [e]
    exact q
  | @lst a xs ds h al =>
    cases (show v = .ref a from r)
    obtain ⟨_, its, n, rv, ho⟩ := (show ObjOk X.prog X.w H s.heap a (.lst xs) from I.hok a _ h)
    exact SeqAt.RcAt.list_str y u ⟨_, ho, rfl, n, rfl⟩ hu
  | @tup a xs ds h al =>
    cases (show v = .ref a from r)
    obtain ⟨_, its, rv, ho⟩ := (show ObjOk X.prog X.w H s.heap a (.tup xs) from I.hok a _ h)
    exact SeqAt.RcAt.tuple_str y u ho hu
  | @dct a kvs es h nd ek al =>
    cases (show v = .ref a from r)
    obtain ⟨_, _, vs, rel, ⟨oc, od, odt, osl⟩, des, ep, ho, hx, hd, _⟩ := (show ObjOk X.prog X.w H s.heap a (.dK kvs) from I.hok a _ h)
    obtain ⟨x1, x2, x3⟩ := hx
    dsimp only at x1 x2 x3 hd
    subst x1 x2 x3 hd
    exact rcDictStr y u ho hu
end
section
variable {X : Cx}
/-- x == 'text', x any data -/
theorem op_eqS (hu : X.A.units + 1 < cLine) : OpR X (compareOp .Eq) (fun x y H Q => ∃ d z, Tr H x d ∧ y = .str z ∧ Q (.bl (strIs z d)) H) := by
  intro pz s σ H x y v u Q I rx ry h
  obtain ⟨d, z, t, rfl, q⟩ := h
  obtain ⟨k, e⟩ := (show ∃ k, u = .str z k from ry)
  cases e
  exact t.rcStr I rx (by omega) z k X.prog X.w X.xe _ ⟨.bl _, H, I, rfl, q⟩
theorem anyStr {e : Value → Bool} {f : Str → Bool} (h : ∀ z k, e (.str z k) = f z) : ∀ {zs : List Str} {us : List Value}, Vals (zs.map V.str) us → us.any e = zs.any f
  | [], _, .nil => rfl
  | z :: zs, _, .cons r t => by
    obtain ⟨k, e1⟩ := (show ∃ k, _ = Value.str z k from r)
    cases e1
    rw [List.any_cons, List.any_cons, h, anyStr h t]
/-- a text's sake: the answer of a text beside the data -/
def isS (d : PyData) : Value → Bool
  | .str z _ => strIs z d
  | _ => false
theorem memStr {zs : List Str} {us : List Value} (r : Vals (zs.map V.str) us) {y : Value} (h : y ∈ us) : ∃ z k, y = .str z k := by
  induction zs generalizing us with
  | nil => cases r; cases h
  | cons z zs ih =>
    cases r with
    | cons r t =>
      rcases List.mem_cons.mp h with e | h
      · subst e
        obtain ⟨k, e1⟩ := (show ∃ k, y = Value.str z k from r)
        exact ⟨z, k, e1⟩
      · exact ih t h
/-- x in (texts), x any data -/
theorem op_inS (hu : X.A.units + 1 < cLine) : OpR X (compareOp .In) (fun x y H Q => ∃ (d : PyData) (a : Addr) (zs : List Str), Tr H x d ∧ y = .ref a ∧ (SqL X.K H a (zs.map V.str) ∨ SqT X.K H a (zs.map V.str)) ∧ Q (.bl (zs.any fun z => strIs z d)) H) := by
  intro pz s σ H x y v u Q I rx ry h
  obtain ⟨d, a, zs, t, rfl, hs, q⟩ := h
  cases (show u = .ref a from ry)
  rcases hs with hs | hs
  · obtain ⟨its, rv, pl, _⟩ := I.list hs
    refine SeqAt.in_listAt (isS d) pl.isList (fun y hy => ?_) ⟨.bl _, H, I, ?_, q⟩
    · obtain ⟨z, k, rfl⟩ := memStr rv (by simpa using hy)
      exact t.eqStr I rx (by show X.A.units + 1 < cLine; omega) z k
    · show Value.bool _ = Value.bool _
      rw [List.any_toArray, anyStr (e := isS d) (f := fun z => strIs z d) (fun _ _ => rfl) rv]
  · obtain ⟨its, rv, pl, _⟩ := I.tuple hs
    refine SeqAt.in_tupleAt (isS d) pl (fun y hy => ?_) ⟨.bl _, H, I, ?_, q⟩
    · obtain ⟨z, k, rfl⟩ := memStr rv (by simpa using hy)
      exact t.eqStr I rx (by show X.A.units + 1 < cLine; omega) z k
    · show Value.bool _ = Value.bool _
      rw [List.any_toArray, anyStr (e := isS d) (f := fun z => strIs z d) (fun _ _ => rfl) rv]
theorem op_notInS (hu : X.A.units + 1 < cLine) : OpR X (compareOp .NotIn) (fun x y H Q => ∃ (d : PyData) (a : Addr) (zs : List Str), Tr H x d ∧ y = .ref a ∧ (SqL X.K H a (zs.map V.str) ∨ SqT X.K H a (zs.map V.str)) ∧ Q (.bl (!zs.any fun z => strIs z d)) H) := by
  intro pz s σ H x y v u Q I rx ry h
  obtain ⟨d, a, zs, t, rfl, hs, q⟩ := h
  cases (show u = .ref a from ry)
  rcases hs with hs | hs
  · obtain ⟨its, rv, pl, _⟩ := I.list hs
    refine SeqAt.notIn_listAt (isS d) pl.isList (fun y hy => ?_) ⟨.bl _, H, I, ?_, q⟩
    · obtain ⟨z, k, rfl⟩ := memStr rv (by simpa using hy)
      exact t.eqStr I rx (by show X.A.units + 1 < cLine; omega) z k
    · show Value.bool _ = Value.bool _
      rw [List.any_toArray, anyStr (e := isS d) (f := fun z => strIs z d) (fun _ _ => rfl) rv]
  · obtain ⟨its, rv, pl, _⟩ := I.tuple hs
    refine SeqAt.notIn_tupleAt (isS d) pl (fun y hy => ?_) ⟨.bl _, H, I, ?_, q⟩
    · obtain ⟨z, k, rfl⟩ := memStr rv (by simpa using hy)
      exact t.eqStr I rx (by show X.A.units + 1 < cLine; omega) z k
    · show Value.bool _ = Value.bool _
      rw [List.any_toArray, anyStr (e := isS d) (f := fun z => strIs z d) (fun _ _ => rfl) rv]
end
end Pk
/-! ### repr of any data -/
namespace Pk
open PySem L2 PySem.Spec PyProof.Rows
section
variable {X : Cx} {pz : List (Addr × Obj)} {σ : L2.St} {H : Hp} {s : Shared}
mutual
theorem Tr.reprK (I : L2.Inv X pz σ H s) : ∀ {x : V} {d : PyData}, Tr H x d → ∀ v : Value, RelV x v → d.showable = true → d.shown.length ≤ sizeLine → ∃ bs, ReadAtMost s.heap d.depth bs ∧ ReprK X.prog X.w bs s.heap d.depth v d.shown
  | _, _, .non, v, r, _, _ => by
    cases (show v = .none from r)
    exact ⟨[], (fun _ h => nomatch h), by simp only [PyData.shown]; exact .of_is ReprIs.none _ _ _⟩
  | _, _, .bl b, v, r, _, _ => by
    cases (show v = .bool b from r)
    exact ⟨[], (fun _ h => nomatch h), by simp only [PyData.shown]; exact .of_is (ReprIs.bool b) _ _ _⟩
  | _, _, .int i, v, r, hs, _ => by
    obtain ⟨k, e⟩ := (show ∃ k, v = .int i k from r)
    cases e
    exact ⟨[], (fun _ h => nomatch h), by simp only [PyData.shown]; exact .of_is (ReprIs.int k (by simpa [PyData.showable] using hs)) _ _ _⟩
  | _, _, .str z, v, r, _, hz => by
    obtain ⟨k, e⟩ := (show ∃ k, v = .str z k from r)
    cases e
    exact ⟨[], (fun _ h => nomatch h), by simp only [PyData.shown]; exact .of_is (ReprIs.str z k (by simpa only [PyData.shown] using hz)) _ _ _⟩
  | _, _, @Tr.lst _ a xs ds h al, v, r, hs, hz => by
    cases (show v = .ref a from r)
    obtain ⟨_, its, n, rv, ho⟩ := (show ObjOk X.prog X.w H s.heap a (.lst xs) from I.hok a _ h)
    have zl : (listText (PyData.shownAll ds)).length ≤ sizeLine := by simpa only [PyData.shown] using hz
    obtain ⟨bs, hb, hk⟩ := TrAll.reprK I al its rv (by simpa [PyData.showable] using hs) (fun t ht => Nat.le_trans (listText_mem_le ht) zl)
    obtain ⟨as, r4⟩ := TrAll.reads I al its rv
    have r0 : Reads s.heap (.ref a) (.list ds) _ := .list ho rfl rfl (by simpa using r4)
    have na : a ∉ bs := not_mem_of_deeper r0 (by simp only [PyData.depth]; omega) hb
    refine ⟨a :: bs, ReadAtMost.cons r0 (by simp only [PyData.depth]; omega) hb, ?_⟩
    simp only [PyData.depth, PyData.shown]
    cases its with
    | nil =>
      cases r4
      simp only [PyData.shownAll, listText_nil]
      exact ReprK.listEmpty ho rfl rfl
    | cons y l => exact ReprK.list ho rfl rfl na (by simpa using hk.length_eq) (fun i y e => hk.item i y (by simpa using e))
  | _, _, @Tr.tup _ a xs ds h al, v, r, hs, hz => by
    cases (show v = .ref a from r)
    obtain ⟨_, its, rv, o, ho, hc, n, hd⟩ := (show ObjOk X.prog X.w H s.heap a (.tup xs) from I.hok a _ h)
    have zl : (tupleText (PyData.shownAll ds)).length ≤ sizeLine := by simpa only [PyData.shown] using hz
    obtain ⟨bs, hb, hk⟩ := TrAll.reprK I al its rv (by simpa [PyData.showable] using hs) (fun t ht => Nat.le_trans (tupleText_mem_le ht) zl)
    obtain ⟨as, r4⟩ := TrAll.reads I al its rv
    have r0 : Reads s.heap (.ref a) (.tuple ds) _ := .tuple ho hc hd (by simpa using r4)
    have na : a ∉ bs := not_mem_of_deeper r0 (by simp only [PyData.depth]; omega) hb
    refine ⟨a :: bs, ReadAtMost.cons r0 (by simp only [PyData.depth]; omega) hb, ?_⟩
    simp only [PyData.depth, PyData.shown]
    exact ReprK.tuple ho hc hd na (by simpa using hk)
  | _, _, @Tr.dct _ a kvs es h nd ek al, v, r, hs, hz => by
    cases (show v = .ref a from r)
    obtain ⟨_, hsys, vs, rel, o, des, ep, ho, hx, hd, _, pr, _⟩ := (show ObjOk X.prog X.w H s.heap a (.dK kvs) from I.hok a _ h)
    have zl : (dictText (PyData.shownKv es)).length ≤ sizeLine := by simpa only [PyData.shown] using hz
    obtain ⟨hs1, hs2⟩ := PyData.showableKv_split es (by simpa [PyData.showable] using hs)
    have r1 : ReadsAll s.heap (des.toList.map (·.key)) (es.map (·.1)) [] := by rw [ek]; exact reads_keys pr rel
    obtain ⟨b1, hb1, k1⟩ := ReprAllK.of_readsAll (prog := X.prog) (w := X.w) r1 hs1 (fun _ z => by cases z) (fun t ht => let ⟨p, hp, hl⟩ := PyData.shownKv_key_le es t ht; Nat.le_trans hl (Nat.le_trans (dictText_mem_le hp) zl))
    obtain ⟨b2, hb2, k2⟩ := TrAll.reprK I al _ (vals_of_pairs pr rel) hs2 (fun t ht => let ⟨p, hp, hl⟩ := PyData.shownKv_val_le es t ht; Nat.le_trans hl (Nat.le_trans (dictText_mem_le hp) zl))
    obtain ⟨as, r2⟩ := TrAll.reads I al _ (vals_of_pairs pr rel)
    have r0 : Reads s.heap (.ref a) (.dict es) _ := .dict ho hx.1 hd r1 r2
    have hb : ReadAtMost s.heap (PyData.depthKv es) (b1 ++ b2) := (hb1.mono (PyData.depthAll_keys_le es)).append (hb2.mono (PyData.depthAll_vals_le es))
    have na : a ∉ b1 ++ b2 := not_mem_of_deeper r0 (by simp only [PyData.depth]; omega) hb
    refine ⟨a :: (b1 ++ b2), ReadAtMost.cons r0 (by simp only [PyData.depth]; omega) hb, ?_⟩
    simp only [PyData.depth, PyData.shown, PyData.shownKv_eq]
    exact ReprK.dict ho hx.1 hd hsys na (ReprEntriesK.of_two des.toList _ _ (k1.more_le (fun b hb => List.mem_append_left _ hb) (PyData.depthAll_keys_le es)) (k2.more_le (fun b hb => List.mem_append_right _ hb) (PyData.depthAll_vals_le es)))
theorem TrAll.reprK (I : L2.Inv X pz σ H s) : ∀ {xs : List V} {ds : List PyData}, TrAll H xs ds → ∀ us : List Value, Vals xs us → PyData.showableAll ds = true → (∀ t ∈ PyData.shownAll ds, t.length ≤ sizeLine) →
    ∃ bs, ReadAtMost s.heap (PyData.depthAll ds) bs ∧ ReprAllK X.prog X.w bs s.heap (PyData.depthAll ds) us (PyData.shownAll ds)
  | _, _, .nil, us, r, _, _ => by
    cases r
    exact ⟨[], (fun _ h => nomatch h), by simp only [PyData.shownAll]; exact .nil⟩
  | _, _, @TrAll.cons _ x xs d ds h t, us, r, hs, hz => by
    cases r with
    | cons ra rb =>
      have hs' : d.showable = true ∧ PyData.showableAll ds = true := by simpa [PyData.showableAll] using hs
      obtain ⟨b1, hb1, k1⟩ := Tr.reprK I h _ ra hs'.1 (hz _ (by simp only [PyData.shownAll]; exact List.mem_cons_self ..))
      obtain ⟨b2, hb2, k2⟩ := TrAll.reprK I t _ rb hs'.2 (fun y hy => hz y (by simp only [PyData.shownAll]; exact List.mem_cons_of_mem _ hy))
      refine ⟨b1 ++ b2, ?_, ?_⟩
      · simp only [PyData.depthAll]
        exact (hb1.mono (Nat.le_max_left _ _)).append (hb2.mono (Nat.le_max_right _ _))
      · simp only [PyData.depthAll, PyData.shownAll]
        exact .cons ((k1.more fun b hb => List.mem_append_left _ hb).level_le (Nat.le_max_left _ _)) (k2.more_le (fun b hb => List.mem_append_right _ hb) (Nat.le_max_right _ _))
end
end
end Pk
namespace Pk
open PySem L2 PySem.Spec PyProof.Rows
/-- repr(x), x any data -/
theorem call_reprT {X : Cx} (hg : X.A.guards = some []) (hu : X.A.units + 100 < cLine) : CallR X (.builtin "repr") (fun xs H Q => ∃ (x : V) (d : PyData), xs = [x] ∧ Tr H x d ∧ d.showable = true ∧ d.depth ≤ 60 ∧ d.shown.length ≤ sizeLine ∧ Q (.str d.shown) H) := by
  intro pz s σ H xs us Q I r h
  obtain ⟨x, d, rfl, t, hs, hdep, hz, q⟩ := h
  cases r with
  | cons r1 r2 =>
  cases r2
  rename_i v
  have fin : ∀ (h' : Heap) (u tk : Tok), (∀ b o, s.heap.get? b = some o → h'.get? b = some o) → EP X pz σ Q (.str d.shown u) { s with heap := h', toks := tk } := fun h' u tk k => ⟨.str _, H, I.kept (t' := tk) k, ⟨u, rfl⟩, q⟩
  have fin0 : ∀ (u tk : Tok), EP X pz σ Q (.str d.shown u) { s with toks := tk } := fun u tk => fin s.heap u tk fun _ _ e => e
  cases t with
  | non =>
    cases (show v = .none from r1)
    simp only [PyData.shown] at fin0
    exact P.repr_of_none (fin0 _ _)
  | bl b =>
    cases (show v = .bool b from r1)
    simp only [PyData.shown] at fin0
    exact P.repr_of_bool (fin0 _ _)
  | int i =>
    obtain ⟨k, e⟩ := (show ∃ k, v = .int i k from r1)
    cases e
    simp only [PyData.shown] at fin0
    exact P.repr_of_int (by simpa [PyData.showable] using hs) (fin0 _ _)
  | str z =>
    obtain ⟨k, e⟩ := (show ∃ k, v = .str z k from r1)
    cases e
    simp only [PyData.shown] at fin0 hz
    exact P.repr_of_str (fin0 _ _) hz
  | @lst a xs ds h al =>
    cases (show v = .ref a from r1)
    obtain ⟨_, its, n, rv, ho⟩ := (show ObjOk X.prog X.w H s.heap a (.lst xs) from I.hok a _ h)
    have zl : (listText (PyData.shownAll ds)).length ≤ sizeLine := by simpa only [PyData.shown] using hz
    obtain ⟨bs, hb, hk⟩ := TrAll.reprK I al its rv (by simpa [PyData.showable] using hs) (fun t ht => Nat.le_trans (listText_mem_le ht) zl)
    obtain ⟨as, r4⟩ := TrAll.reads I al its rv
    have r0 : Reads s.heap (.ref a) (.list ds) _ := .list ho rfl rfl (by simpa using r4)
    have na : a ∉ bs := not_mem_of_deeper r0 (by simp only [PyData.depth]; omega) hb
    simp only [PyData.depth] at hdep
    simp only [PyData.shown] at fin
    refine call_repr_slot (by omega) ⟨_, ho, rfl⟩ F.slot_list_repr.toG ?_
    cases its with
    | nil =>
      cases r4
      simp only [listText_nil, PyData.shownAll] at fin
      exact call_list_repr_empty ⟨_, ho, rfl⟩ ho rfl ⟨_, _, rfl, fin s.heap _ _ fun _ _ e => e⟩
    | cons y l =>
      exact call_list_reprK (h₀ := s.heap) ho rfl rfl na (by simpa using hk.length_eq) (fun i y e => hk.item i y (by simpa using e)) hg (fun b _ => Clear.nil b) (by show X.A.units + 1 + (PyData.depthAll ds + 1) < cLine; omega) (fun _ _ e => e) (fun h' u tk k => ⟨_, _, rfl, fin h' u tk k⟩) zl
  | @tup a xs ds h al =>
    cases (show v = .ref a from r1)
    obtain ⟨_, its, rv, o, ho, hc, n, hd⟩ := (show ObjOk X.prog X.w H s.heap a (.tup xs) from I.hok a _ h)
    have zl : (tupleText (PyData.shownAll ds)).length ≤ sizeLine := by simpa only [PyData.shown] using hz
    obtain ⟨bs, hb, hk⟩ := TrAll.reprK I al its rv (by simpa [PyData.showable] using hs) (fun t ht => Nat.le_trans (tupleText_mem_le ht) zl)
    obtain ⟨as, r4⟩ := TrAll.reads I al its rv
    have r0 : Reads s.heap (.ref a) (.tuple ds) _ := .tuple ho hc hd (by simpa using r4)
    have na : a ∉ bs := not_mem_of_deeper r0 (by simp only [PyData.depth]; omega) hb
    simp only [PyData.depth] at hdep
    simp only [PyData.shown] at fin
    refine call_repr_slot (by omega) ⟨_, ho, hc⟩ F.slot_tuple_repr ?_
    exact call_tuple_reprK (h₀ := s.heap) ho hc hd na (by simpa using hk) hg (fun b _ => Clear.nil b) (by show X.A.units + 1 + (PyData.depthAll ds + 1) < cLine; omega) (fun _ _ e => e) (fun h' u tk k => ⟨_, _, rfl, fin h' u tk k⟩) zl
  | @dct a kvs es h nd ek al =>
    cases (show v = .ref a from r1)
    obtain ⟨_, hsys, vs, rel, o, des, ep, ho, hx, hd, _, pr, _⟩ := (show ObjOk X.prog X.w H s.heap a (.dK kvs) from I.hok a _ h)
    have zl : (dictText (PyData.shownKv es)).length ≤ sizeLine := by simpa only [PyData.shown] using hz
    obtain ⟨hs1, hs2⟩ := PyData.showableKv_split es (by simpa [PyData.showable] using hs)
    have rk : ReadsAll s.heap (des.toList.map (·.key)) (es.map (·.1)) [] := by rw [ek]; exact reads_keys pr rel
    obtain ⟨b1, hb1, k1⟩ := ReprAllK.of_readsAll (prog := X.prog) (w := X.w) rk hs1 (fun _ z => by cases z) (fun t ht => let ⟨p, hp, hl⟩ := PyData.shownKv_key_le es t ht; Nat.le_trans hl (Nat.le_trans (dictText_mem_le hp) zl))
    obtain ⟨b2, hb2, k2⟩ := TrAll.reprK I al _ (vals_of_pairs pr rel) hs2 (fun t ht => let ⟨p, hp, hl⟩ := PyData.shownKv_val_le es t ht; Nat.le_trans hl (Nat.le_trans (dictText_mem_le hp) zl))
    obtain ⟨as, r2⟩ := TrAll.reads I al _ (vals_of_pairs pr rel)
    have r0 : Reads s.heap (.ref a) (.dict es) _ := .dict ho hx.1 hd rk r2
    have hb : ReadAtMost s.heap (PyData.depthKv es) (b1 ++ b2) := (hb1.mono (PyData.depthAll_keys_le es)).append (hb2.mono (PyData.depthAll_vals_le es))
    have na : a ∉ b1 ++ b2 := not_mem_of_deeper r0 (by simp only [PyData.depth]; omega) hb
    simp only [PyData.depth] at hdep
    simp only [PyData.shown, PyData.shownKv_eq] at fin
    refine call_repr_slot (by omega) ⟨_, ho, hx.1⟩ F.slot_dict_repr ?_
    exact call_dict_reprK (h₀ := s.heap) ho hx.1 hd hsys na (ReprEntriesK.of_two des.toList _ _ (k1.more_le (fun b hb => List.mem_append_left _ hb) (PyData.depthAll_keys_le es)) (k2.more_le (fun b hb => List.mem_append_right _ hb) (PyData.depthAll_vals_le es)))
      hg (fun b _ => Clear.nil b) (by show X.A.units + 1 + (PyData.depthKv es + 1) < cLine; omega) (fun _ _ e => e) (fun h' u tk k => ⟨_, _, rfl, fin h' u tk k⟩) (by rw [← PyData.shownKv_eq]; exact zl)
/-! ### kinds -/
/-- the type's name -/
def tyD : PyData → String
  | .none => "NoneType"
  | .bool _ => "bool"
  | .int _ => "int"
  | .str _ => "str"
  | .list _ => "list"
  | .tuple _ => "tuple"
  | .dict _ => "dict"
theorem Tr.ty {K : PySem.W.Frag} {H : Hp} {x : V} {d : PyData} (t : Tr H x d) : TyX K H x (.type (tyD d)) := by
  cases t with
  | non => exact .base .non
  | bl b => exact .base (.bl b)
  | int i => exact .base (.int i)
  | str z => exact .base (.str z)
  | lst h _ => exact .base (.lst h)
  | tup h _ => exact .base (.tup h)
  | dct h _ _ _ => exact .base (.dK h)
/-- the answers of isinstance for the kinds of data -/
def isB : PyData → Bool
  | .bool _ => true
  | _ => false
def isI : PyData → Bool
  | .bool _ => true
  | .int _ => true
  | _ => false
def isStr : PyData → Bool
  | .str _ => true
  | _ => false
def isTup : PyData → Bool
  | .tuple _ => true
  | _ => false
def isLst : PyData → Bool
  | .list _ => true
  | _ => false
theorem kB : ∀ d : PyData, kitB (tyD d) "bool" = some (isB d) := by intro d; cases d <;> (simp only [tyD, isB]; decide +kernel)
theorem kI : ∀ d : PyData, kitB (tyD d) "int" = some (isI d) := by intro d; cases d <;> (simp only [tyD, isI]; decide +kernel)
theorem kS : ∀ d : PyData, kitB (tyD d) "str" = some (isStr d) := by intro d; cases d <;> (simp only [tyD, isStr]; decide +kernel)
theorem kT : ∀ d : PyData, kitB (tyD d) "tuple" = some (isTup d) := by intro d; cases d <;> (simp only [tyD, isTup]; decide +kernel)
theorem kL : ∀ d : PyData, kitB (tyD d) "list" = some (isLst d) := by intro d; cases d <;> (simp only [tyD, isLst]; decide +kernel)
/-- isinstance(e, T) -/
theorem call_isT {X : Cx} : CallR X (.builtin "isinstance") (fun xs H Q => ∃ (x : V) (T : String) (d : PyData) (g : PyData → Bool), xs = [x, .ty T] ∧ (∀ d, kitB (tyD d) T = some (g d)) ∧ Tr H x d ∧ Q (.bl (g d)) H) := by
  intro pz s σ H xs us Q I r h
  obtain ⟨x, T, d, g, rfl, hk, t, q⟩ := h
  exact call_isi pz s σ H _ us Q I r ⟨x, .ty T, _, _, _, rfl, .ty T, t.ty, kit_ty (hk d), q⟩
end Pk
/-! enumerate(a tuple) -/
namespace Pk
open PySem PySem.AutoSeq1
section
variable {prog : Program} {w : World} {A : Around} {E : Value → Shared → Prop} {s : Shared} {q t : Addr} {i : Nat} {its : Array Value}
theorem tupNext {x : Value} {Q : Value → Shared → Prop} (hq : s.heap.IsTupleIter q t i) (ht : s.heap.IsTuple t its) (hx : its[i]? = some x)
    (k : ∀ hz, hz.IsTupleIter q t (i + 1) → Heap.SameBut q s.heap hz → Q x { s with heap := hz }) : wpAny (model prog w) A (Builtin.SmallTypes.nextOf (.ref q)) Q E s := by
  obtain ⟨ob, g1, g2, g3⟩ := id hq
  obtain ⟨ot, g4, _, nt, g5⟩ := ht
  unfold Builtin.SmallTypes.nextOf
  refine wpAny_bind (wpAny_callSpecial?_slot (name := Str.ofString "__next__") hq.typeIs F.slot_tuple_iterator_next (wpAny_call_entry F.slot_tuple_iterator_next hq.typeIs F.entry_tuple_iterator_next ?_ (F.args_tuple_iterator_next_1 _)))
  show wpAny _ _ (field (.ref q) 0 >>= _) _ _ s
  refine wpAny_bind (wpAny_field g1 g3 (x := .ref t) rfl ?_)
  show wpAny _ _ (if (Value.ref t == Value.none) = true then _ else _) _ _ s
  rw [if_neg (show ¬ ((Value.ref t == Value.none) = true) from Bool.false_ne_true)]
  show wpAny _ _ (field (.ref q) 1 >>= _) _ _ s
  refine wpAny_bind (wpAny_field g1 g3 (x := .int i 0) rfl ?_)
  show wpAny _ _ (seqItems? (.ref t) >>= _) _ _ s
  refine wpAny_bind (wpAny_seqItems g4 g5 ?_)
  simp only [Int.toNat_natCast, hx]
  refine wpAny_bind (wpAny_setField g1 g3 (by simp) (wpAny_pure ⟨x, rfl, wpAny_pure (k _ ?_ (Heap.SameBut.update ..))⟩))
  exact ⟨_, Heap.get?_update_self _ g1 (Obj.isFreed_of_fields (Obj.data_mapFields g3 _)), (Obj.cls_mapFields ..).trans g2, by rw [Obj.data_mapFields g3]; simp [rawInt]⟩
theorem tupDone {Q : Value → Shared → Prop} (hh : A.handled = none) (hq : s.heap.IsTupleIter q t i) (ht : s.heap.IsTuple t its) (hx : its[i]? = none)
    (k : ∀ hz e, Heap.ExtBut q s.heap hz → (∃ o, hz.get? e = some o ∧ o.cls = .type "StopIteration") → E (.ref e) { s with heap := hz }) : wpAny (model prog w) A (Builtin.SmallTypes.nextOf (.ref q)) Q E s := by
  obtain ⟨ob, g1, g2, g3⟩ := id hq
  obtain ⟨ot, g4, _, nt, g5⟩ := ht
  unfold Builtin.SmallTypes.nextOf
  refine wpAny_bind (wpAny_callSpecial?_slot (name := Str.ofString "__next__") hq.typeIs F.slot_tuple_iterator_next (wpAny_call_entry F.slot_tuple_iterator_next hq.typeIs F.entry_tuple_iterator_next ?_ (F.args_tuple_iterator_next_1 _)))
  show wpAny _ _ (field (.ref q) 0 >>= _) _ _ s
  refine wpAny_bind (wpAny_field g1 g3 (x := .ref t) rfl ?_)
  show wpAny _ _ (if (Value.ref t == Value.none) = true then _ else _) _ _ s
  rw [if_neg (show ¬ ((Value.ref t == Value.none) = true) from Bool.false_ne_true)]
  show wpAny _ _ (field (.ref q) 1 >>= _) _ _ s
  refine wpAny_bind (wpAny_field g1 g3 (x := .int i 0) rfl ?_)
  show wpAny _ _ (seqItems? (.ref t) >>= _) _ _ s
  refine wpAny_bind (wpAny_seqItems g4 g5 ?_)
  simp only [Int.toNat_natCast, hx]
  refine wpAny_bind (wpAny_rule (wpAny_bind (wpAny_setField g1 g3 (by simp) ?_)))
  show wpAny _ _ (newExc (.type "StopIteration") [] >>= _) _ _ _
  refine wpAny_bind ?_
  simp only [newExc, newTuple]
  refine wpAny_bind (wpAny_newObj_type ?_ (by size_fits))
  refine wpAny_bind (m := firstArgMember _ _) (wpAny_of_eq (a := Value.none) (by first | rfl | (simp only [firstArgMember]; rfl)) ?_)
  refine wpAny_newObj_type ?_ (by size_fits)
  simp only [raiseNew]
  refine wpAny_bind (wpAny_handled ?_)
  first | rw [show A.in1.handled = none from hh] | rw [hh]
  refine wpAny_bind (wpAny_pure (wpAny_throw ?_))
  exact k _ _ (((Heap.SameBut.update ..).extBut.push _).push _) ⟨_, Heap.get?_push_size _ rfl, rfl⟩
end
theorem drawsTup {prog : Program} {w : World} {A : Around} (hh : A.handled = none) (q t : Addr) (hne : t ≠ q) (its : Array Value) : Draws prog w A q [q, t] its.size (fun i v => its[i]? = some v) (fun i h => h.IsTupleIter q t i ∧ h.IsTuple t its) where
  live := fun _ _ z => let ⟨o, ho, _⟩ := z.1; ⟨o, ho⟩
  frame := fun _ _ _ z hk => ⟨z.1.at fun o e => hk q (by simp) o e, let ⟨o, ho, r⟩ := z.2; ⟨o, hk t (by simp) o ho, r⟩⟩
  item := fun i s Q E hi z k => by
    refine tupNext z.1 z.2 (x := its[i]) (by simp [hi]) fun hz h1 h2 => ?_
    exact k _ hz s.toks (by simp [hi]) ⟨h1, let ⟨o, ho, r⟩ := z.2; ⟨o, (h2.2 t hne).trans ho, r⟩⟩ h2
  done := fun s Q E z k => tupDone hh z.1 z.2 (by simp) k
set_option maxHeartbeats 1000000 in
theorem enumNewTup (l : Addr) (its : Array Value) (n : Nat) (dd : Option Addr) (sl : Array (Option Value)) :
    Meets (Builtin.«enumerate.__new__» ⟨[.type "enumerate", .ref l], []⟩) (fun _ R s => s.heap.get? l = some { cls := .type "tuple", dict := dd, data := .seq its n, slots := sl } ∧
      R (.ok (.ret (.ref (s.heap.push { cls := .type "tuple_iterator", data := .fields #[.ref l, .int 0 0] }).objs.size)))
        { s with heap := (s.heap.push { cls := .type "tuple_iterator", data := .fields #[.ref l, .int 0 0] }).push { cls := .type "enumerate", data := .fields #[.none, .bool false, .ref s.heap.objs.size, rawInt 0, .none, .none] } }) :=
  .of_wp fun prog w A R s h => by
    obtain ⟨hp, g, d, tk, os⟩ := s
    obtain ⟨hl, h⟩ := h
    have hsub := sub_enumerate
    have hL : Heap.IsTuple (Shared.heap ⟨hp, g, d, tk, os⟩) l its := ⟨_, hl, rfl, n, rfl⟩
    wp_walk using wpAny_loadPart' hl
    refine wpAny_stack_any fun st => wpAny_pure ?_
    split
    · rename_i c _ _ _ _ _
      cases (c == Value.type "enumerate")
      · wp_walk using wpAny_loadPart' hl, wpAny_pyIter_tuple hL
        exact ⟨_, rfl, h⟩
      · wp_walk using wpAny_loadPart' hl, wpAny_pyIter_tuple hL
        exact ⟨_, rfl, h⟩
    · wp_walk using wpAny_loadPart' hl, wpAny_pyIter_tuple hL
      exact ⟨_, rfl, h⟩
theorem callEnumTup {prog : Program} {w : World} {A : Around} {E : Value → Shared → Prop} {s : Shared} {l : Addr} {its : Array Value} {Q : Value → Shared → Prop} (hL : s.heap.IsTuple l its)
    (k : ∀ hz, IsEnum hz (s.heap.objs.size + 1) s.heap.objs.size 0 .none → hz.IsTupleIter s.heap.objs.size l 0 → (∀ b o, s.heap.get? b = some o → hz.get? b = some o) → Q (.ref (s.heap.objs.size + 1)) { s with heap := hz }) :
    wpAny (model prog w) A (call (.type "enumerate") [.ref l]) Q E s := by
  obtain ⟨⟨c, dd, dt, sl⟩, hl, hc, n, hd⟩ := hL
  dsimp only at hc hd
  subst hc hd
  refine callType_new F.called_enumerate (by decide) (F.typeCall_enumerate_1 _) (F.newCall_enumerate_1 _) (fun obj => F.args_object_init_2 obj _) F.entry_enumerate_new (enumNewTup l its n dd sl) ⟨hl, ?_⟩
  have z1 : (s.heap.push { cls := .type "tuple_iterator", data := .fields #[.ref l, .int 0 0] }).objs.size = s.heap.objs.size + 1 := Heap.size_push ..
  show _ ∧ _
  rw [z1]
  have he : IsEnum ((s.heap.push { cls := .type "tuple_iterator", data := .fields #[.ref l, .int 0 0] }).push { cls := .type "enumerate", data := .fields #[.none, .bool false, .ref s.heap.objs.size, rawInt 0, .none, .none] }) (s.heap.objs.size + 1) s.heap.objs.size 0 .none := by
    have z2 := Heap.get?_push_size (s.heap.push { cls := .type "tuple_iterator", data := .fields #[.ref l, .int 0 0] }) (o := { cls := .type "enumerate", data := .fields #[.none, .bool false, .ref s.heap.objs.size, rawInt 0, .none, .none] }) rfl
    rw [z1] at z2
    exact z2
  exact ⟨⟨_, he, rfl⟩, k _ he ⟨_, Heap.get?_push_of_some _ (Heap.get?_push_size _ rfl), rfl, rfl⟩ fun b o x => Heap.get?_push_of_some _ (Heap.get?_push_of_some _ x)⟩
end Pk
namespace Pk
open PySem L2 PySem.Spec PyProof.Rows
/-- the items of the tuple at a, each with its number in a new pair -/
def IteT (K : PySem.W.Frag) (a : Addr) : It :=
  ⟨fun i H => ∃ (xs : List V) (x : V), SqT K H a xs ∧ xs[i]? = some x, fun i H v H' => ∃ T x, v = .ref T ∧ H T = none ∧ H' = upd H T (.tup [.int (i : Nat), x]) ∧ ∀ xs, SqT K H a xs → xs[i]? = some x, fun i H => ∃ xs : List V, SqT K H a xs ∧ xs.length ≤ i⟩
theorem turnEnumT {P : Program} {w : World} {K : PySem.W.Frag} {elts : List Expr} {kk : Nat} {tp : Pos} (a e it : Addr) :
    Turn P w K (.Tuple elts kk tp) (IteT K a) [e, it] e (fun i h => (∃ old, IsEnum h e it ((i : Nat) : Int) old) ∧ h.IsTupleIter it a i ∧ e ≠ it ∧ a ≠ it ∧ e ≠ a) where
  mem := by simp
  obj := fun i h z b hb => by
    obtain ⟨⟨old, he⟩, ⟨o, ho, hc, hd⟩, _⟩ := z
    rcases (show b = e ∨ b = it by simpa using hb) with y | y
    · rw [y]; exact ⟨_, he, fun v q => nomatch q⟩
    · rw [y]; exact ⟨o, ho, fun v q => by rw [hd] at q; cases q⟩
  keep := fun i h h' z k => let ⟨⟨old, he⟩, hi, hne⟩ := z; ⟨⟨old, k e (by simp) _ he⟩, hi.at fun o q => k it (by simp) o q, hne⟩
  item := by
    intro X hP hw hK hc i pz s σ H E I hf z hg
    subst hP hw hK
    obtain ⟨⟨old, he⟩, hit, hne, hai, hea⟩ := z
    obtain ⟨xs, x, hq, hx⟩ := hg
    obtain ⟨its, rv, p, hz⟩ := I.tuple hq
    obtain ⟨u, hu, ru⟩ := rv.get hx
    have l1 : e < s.heap.objs.size := Heap.lt_size he
    have l2 : it < s.heap.objs.size := by obtain ⟨_, y, _⟩ := hit; exact Heap.lt_size y
    have hlt : i < its.toArray.size := by
      have y := (List.getElem?_eq_some_iff.mp hu).1
      simpa using y
    refine wpAny_pyNext_enum_itemD (drawsTup (show X.A.in1.handled = none from I.ok.hd hc) it a hai its.toArray) he ⟨hit, p⟩ hlt hne (by simp; exact ⟨hne, hea⟩) fun y h' tk hy ho hs' hT hsz hk => ?_
    have eu : y = u := by
      have y1 : its.toArray[i]? = some u := by simpa using hu
      rw [hy] at y1
      exact Option.some.inj y1
    subst eu
    refine ⟨_, rfl, wpAny_letOwnedTupleGo_enum (s := { s with heap := h', toks := tk + 1 }) ho fun h'' he' sb => ?_⟩
    have hT2 : h''.get? s.heap.objs.size = some { cls := .type "tuple", data := .seq #[.int i tk, y] } := (sb.2 _ (Nat.ne_of_gt l1)).trans hT
    have new : ObjOk X.prog X.w (upd H s.heap.objs.size (.tup [.int (i : Nat), x])) h'' s.heap.objs.size (.tup [.int (i : Nat), x]) :=
      ⟨by show 2 ≤ sizeLine; decide, [.int i tk, y], .cons ⟨_, rfl⟩ (.cons ru .nil), ⟨_, hT2, rfl, _, rfl⟩⟩
    have Ia : L2.Inv X pz σ (upd H s.heap.objs.size (.tup [.int (i : Nat), x])) { s with heap := h'', toks := tk + 1 } :=
      I.turnedNew (ch := [e, it]) (fun b ob hb q => (sb.2 b (fun z => hb (by simp [z]))).trans (hk b ob (fun z => hb (by simp [z])) (fun z => hb (by simp [z])) q)) hf (Nat.le_refl _) new
    refine ⟨.ref s.heap.objs.size, _, Ia, rfl, ⟨_, x, rfl, I.hok.fresh (Nat.le_refl _), rfl, fun ys hy => by rw [I.tuple_inj hy hq]; exact hx⟩, ⟨⟨y, ?_⟩, hs'.1.at fun o q => (sb.2 it (Ne.symm hne)).trans q, hne, hai, hea⟩, fun b hb => ?_⟩
    · have y1 : ((i + 1 : Nat) : Int) = (i : Int) + 1 := by omega
      rw [y1]
      exact he'
    · have hb' : b < s.heap.objs.size := by
        rcases (show b = e ∨ b = it by simpa using hb) with z | z
        · rw [z]; exact l1
        · rw [z]; exact l2
      rw [upd_ne (Nat.ne_of_lt hb')]
      exact (hf b hb).1
  done := by
    intro X hP hw hK hc i pz s σ H E I hf z hg
    subst hP hw hK
    obtain ⟨⟨old, he⟩, hit, hne, hai, hea⟩ := z
    obtain ⟨xs, hq, hx⟩ := hg
    obtain ⟨its, rv, p, hz⟩ := I.tuple hq
    obtain ⟨f0, f1, f2, f3, f4, f5⟩ := hf it (by simp)
    have hl := rv.length
    have hT : s.TypeIs (.ref e) "enumerate" := ⟨_, he, rfl⟩
    unfold pyNext
    refine wpAny_bind (wpAny_attempt (wpAny_callSpecial?_slot (name := Str.ofString "__next__") hT F.slot_enumerate_next (wpAny_call_entry F.slot_enumerate_next hT F.entry_enumerate_next ?_ (F.args_enumerate_next_1 _))))
    show wpAny _ _ (field (.ref e) 2 >>= _) _ _ _
    refine wpAny_bind (wpAny_field he rfl (x := .ref it) rfl ?_)
    refine wpAny_bind (tupDone (show X.A.in1.handled = none from I.ok.hd hc) hit (show s.heap.IsTuple a its.toArray from p) (by simp; omega) fun h' x he' hx' => ?_)
    obtain ⟨o, ho, hcl⟩ := hx'
    refine wpAny_bind (wpAny_isInstance (T := "StopIteration") (b := true) ⟨o, ho, hcl⟩ isSubtype_stop ?_)
    exact wpAny_pure ⟨rfl, I.turned (t' := s.toks) (fun b o hb q => he' b o hb q) f0 f1 f3 f4 f5⟩
  self := fun A i s Q E z h => let ⟨⟨_, he⟩, _⟩ := z; wpAny_pyIter_enum he h
def iEnumT (K : PySem.W.Frag) (ta : TA) : TI := fun σ H R => ta σ H fun va Ha => ∃ a xs, va = [.ref a] ∧ SqT K Ha a xs ∧ R (IteT K a) Ha
theorem pi_enumT {X : Cx} {e : Expr} {ta : TA} {p pos tp : Pos} {elts : List Expr} {kk : Nat} (hg : Gl X "enumerate") (hm : X.mg "enumerate" = none) (ha : PA X [e] ta) (hs : starEach [e] X.env = [(false, eval e X.env)] := by rfl) :
    PI X (.Tuple elts kk tp) (.Call (.Name "enumerate" p) [e] [] pos) (iEnumT X.K ta) := by
  refine ⟨fun pz s σ H R I h => ?_⟩
  refine Call_ (ld_blt I hg hm boot_enumerate (PyProof.Rows.callWith_type1 (thn (ha.run pos pz s σ H _ I h) fun ua sa ⟨va, Ha, Ia, ra, qa⟩ => ?_) hs rfl))
  obtain ⟨a, xs, ex, hq, q⟩ := qa
  subst ex
  cases ra with
  | cons r rr =>
    cases rr
    cases (show _ = Value.ref a from r)
    obtain ⟨its, rv, p', hz⟩ := Ia.tuple hq
    have la : a < sa.heap.objs.size := by obtain ⟨_, y, _⟩ := p'; exact Heap.lt_size y
    refine callEnumTup p' fun hz' he hit hk => wpAny_pyIter_enum he ?_
    have Ib : L2.Inv X pz σ Ha { sa with heap := hz' } := Ia.kept (t' := sa.toks) hk
    refine ⟨sa.heap.objs.size + 1, [sa.heap.objs.size + 1, sa.heap.objs.size], _, _, Ha, rfl, Ib, turnEnumT a (sa.heap.objs.size + 1) sa.heap.objs.size, ⟨⟨.none, he⟩, hit, Nat.succ_ne_self _, Nat.ne_of_lt la, Nat.ne_of_gt (Nat.lt_succ_of_lt la)⟩, fun b hb => ?_, q⟩
    have hle : sa.heap.objs.size ≤ b := by
      rcases (show b = sa.heap.objs.size + 1 ∨ b = sa.heap.objs.size by simpa using hb) with z | z
      · rw [z]; exact Nat.le_succ _
      · rw [z]; exact Nat.le_refl _
    exact Ia.fpOk hle (Ia.hok.fresh hle)
end Pk
namespace Pk
open PySem L2 PySem.Spec PyProof.Rows GxR
/-- 'a' <= sign <= 'z' -/
def smallC (c : Nat) : Bool := decide (97 ≤ c) && decide (c ≤ 122)
theorem lt1 (a b : Nat) : decide (([a] : List Nat) < [b]) = decide (a < b) := by
  by_cases h : a < b
  · rw [decide_eq_true h]
    exact decide_eq_true (by simp [List.cons_lt_cons_iff, h])
  · rw [decide_eq_false h]
    exact decide_eq_false (by simp [List.cons_lt_cons_iff, h])
theorem elt_az {prog : Program} {w : World} {scope : Scope} {x : Str} {j1 j2 : Nat} {p1 p2 p3 p4 : Pos} (hk : scope.kind = .function) (hl : scope.names.lookup x = some .local) (hd : (x == ("__debug__" : Str)) = false := by decide) :
    EltP prog w scope x (.Compare (.Constant (.str "a") j1 p1) [.LtE, .LtE] [.Name x p2, .Constant (.str "z") j2 p3] p4) smallC := by
  intro cenv A' E' c t sz m hs hn hm
  have e1 : (!decide ((⟨#[c]⟩ : Str).cps.toList < ("a" : Str).cps.toList)) = decide (97 ≤ c) := by
    show (!decide ([c] < [97])) = decide (97 ≤ c)
    rw [lt1]
    by_cases h : c < 97
    · rw [decide_eq_true h, decide_eq_false (by omega)]; rfl
    · rw [decide_eq_false h, decide_eq_true (by omega)]; rfl
  have e2 : (!decide (("z" : Str).cps.toList < (⟨#[c]⟩ : Str).cps.toList)) = decide (c ≤ 122) := by
    show (!decide ([122] < [c])) = decide (c ≤ 122)
    rw [lt1]
    by_cases h : 122 < c
    · rw [decide_eq_true h, decide_eq_false (by omega)]; rfl
    · rw [decide_eq_false h, decide_eq_true (by omega)]; rfl
  refine Compare_chain (Calls.Constant_str (chain_link (wpAny_Name (wpAny_loadName_local (by rw [hs]; exact hk) (show cenv.scope.names.lookup x = some .local by rw [hs]; exact hl) hn hm ?_) hd))) (by with_unfolding_all rfl)
  refine PySem.P.le_str ?_
  rw [e1]
  refine wpAny_truthy_bool ?_
  cases h1 : decide (97 ≤ c) with
  | false => exact ite_ff ⟨by unfold smallC; rw [h1]; rfl, keeps_tok _ _⟩
  | true =>
    refine ite_tt (chain_last (Calls.Constant_str (PySem.P.le_str ?_)))
    rw [e2]
    exact ⟨by unfold smallC; rw [h1]; rfl, keeps_tok _ _⟩
/-! ### x in a tuple of data -/
section
variable {X : Cx}
theorem op_inDT (hu : X.A.units + 65 < cLine) : OpR X (compareOp .In) (fun x y H Q => ∃ (d : PyData) (ds : List PyData), Dp X.K H x d ∧ Dp X.K H y (.tuple ds) ∧ SeqAt.shaped d = true ∧ SeqAt.shaped (.tuple ds) = true ∧ Q (.bl (ds.any fun z => PyData.eqv z d)) H) := by
  intro pz s σ H x y v u Q I rx ry h
  obtain ⟨d, ds, hd, he, sd, se, q⟩ := h
  obtain ⟨as, r1⟩ := Dp.reads I d x v hd rx
  obtain ⟨bs, r2⟩ := Dp.reads I (.tuple ds) y u he ry
  exact SeqAt.in_tuple_reads r2 r1 (SeqAt.canLay_of_shaped se) (SeqAt.canLay_of_shaped sd) (room_in_shaped sd hu) ⟨.bl _, H, I, rfl, q⟩
end
end Pk
namespace Pk
open PySem L2 PySem.Spec PyProof.Rows
/-- the law's call from outside, with tables of code objects (cs: code object, its table) -/
theorem lawGT {P : Program} {w : World} {K : PySem.W.Frag} {mg mb : Str → Option Value} {k : Nat} {fa a : Addr} {cs : List (Addr × Addr)} {fd : FuncData} {x : Str} {sp : Sp} {sz : Shared} {va : List Value} {ns : List Int}
    (inK : K.In sz.heap) (hn : sz.heap.Ns mainGlobals mg) (hbn : sz.heap.Ns builtinsNs mb) (hbb : ∀ x : Str, x ≠ "__name__" → mb x = bootBuiltins x) (noL : sz.heap.NoLimit) (hgn : sz.gens = #[])
    (tabs : ∀ p ∈ cs, sz.heap.get? p.2 = some { cls := .none, data := .fields #[] }) (notK : ∀ p ∈ cs, K.lookup p.2 = none) (hds : ∀ p ∈ cs, PySem.W.CodeHd sz.heap p.1 p.2)
    (hbm : ∃ (bm : Addr) (ob : Obj), mg "__builtins__" = some (.ref bm) ∧ bm ≠ builtinsNs ∧ sz.heap.get? bm = some ob ∧ ob.cls = .type "module" ∧ ob.dict = some builtinsNs ∧ ob.data = .plain)
    (ha : sz.heap.get? a = some { cls := .type "list", data := .seq va.toArray }) (hi : IntsAre va ns) (hl : ns.length ≤ sizeLine) (hr : Room k callerA)
    (G : ∀ bs : Heap, K.In bs → bs.Ns mainGlobals mg → (∀ p ∈ cs, GxR.TabB bs mg p.1 p.2) → FnG P w K mg bs k fa fd [x] sp) (hbt : ∀ (s : Shared) (u : Value), BindsTo s fd ⟨[u], []⟩ [(x, u)])
    (hq : ∀ H : Hp, (∀ p ∈ cs, H p.2 = some (.tbl #[])) → SqL K H a (ns.map V.int) → sp [.ref a] H (fun v _ => v = .bl true) fun _ _ _ => False) :
    codeAny (model P w) callerA (.call (.ref fa) ⟨[.ref a], []⟩) (fun r s' => r = .ok (.ret (.bool true)) ∧ OldK sz.heap s'.heap ∧ s'.os = sz.os ∧ AllBare s'.gens) sz := by
  have rr := vals_ints hi
  have ln := hi.length
  have isTab : ∀ b : Addr, b ∈ cs.map (·.2) → sz.heap.get? b = some { cls := .none, data := .fields #[] } := fun b hb => by
    obtain ⟨p, hp, e⟩ := List.mem_map.mp hb
    subst e
    exact tabs p hp
  have noTab : a ∉ cs.map (·.2) := fun z => by
    have y := (isTab a z).symm.trans ha
    cases y
  have inT : ∀ p ∈ cs, p.2 ∈ cs.map (·.2) := fun p hp => List.mem_map.mpr ⟨p, hp, rfl⟩
  have main : ∀ H : Hp, (∀ p ∈ cs, H p.2 = some (.tbl #[])) → (∀ b u, H b = some u → b ∈ cs.map (·.2) ∨ (b = a ∧ ∃ o xs, u = .frz o (.lst xs))) → SqL K H a (ns.map V.int) → HOk P w H sz.heap → (H a ≠ none → K.lookup a = none) →
      codeAny (model P w) callerA (.call (.ref fa) ⟨[.ref a], []⟩) (fun r s' => r = .ok (.ret (.bool true)) ∧ OldK sz.heap s'.heap ∧ s'.os = sz.os ∧ AllBare s'.gens) sz := by
    intro H hT only hS hok hK
    have free : ∀ {b : Addr} {o : Obj}, sz.heap.get? b = some o → (∀ v n, o.data ≠ .seq v n) → o.data ≠ .fields #[] → H b = none := fun {b o} e n1 n2 => by
      cases z : H b with
      | none => rfl
      | some u =>
        rcases only b u z with y | ⟨y, _⟩
        · rw [isTab b y] at e
          cases e
          exact (n2 rfl).elim
        · rw [y, ha] at e
          cases e
          exact (n1 _ _ rfl).elim
    have freeD : ∀ {b : Addr} {o : Obj} {es : Array DictEntry} {ep : Nat}, sz.heap.get? b = some o → o.data = .dict es ep → H b = none := fun {b o es ep} e d => free e (fun v n z => by rw [d] at z; cases z) fun z => by rw [d] at z; cases z
    have nsB : ∀ {b : Addr} {m : Str → Option Value}, sz.heap.Ns b m → (hidT sz.heap H).Ns b m := fun {b m} ⟨o, es, ep, e, d, z⟩ => ⟨o, es, ep, hidT_get e (freeD e d), d, z⟩
    have kB : K.In (hidT sz.heap H) := fun b o e => hidT_get (inK b o e) (by
      cases z : H b with
      | none => rfl
      | some u =>
        rcases only b u z with y | ⟨y, _⟩
        · obtain ⟨p, hp, ep⟩ := List.mem_map.mp y
          subst ep
          rw [notK p hp] at e
          cases e
        · subst y
          rw [hK (by rw [z]; simp)] at e
          cases e)
    have md : L2.Mod K mg (hidT sz.heap H) := ⟨kB, nsB hn, ⟨mb, nsB hbn, hbb⟩, let ⟨mc, z1, z2⟩ := noL; ⟨mc, nsB z1, z2⟩⟩
    have tb : ∀ p ∈ cs, GxR.TabB (hidT sz.heap H) mg p.1 p.2 := fun p hp => by
      have tp := tabs p hp
      refine ⟨?_, ?_, fun z => ?_⟩
      · obtain ⟨o, us, file, tf, flags, tg, inF, text, tt, e1, g1, g2, g3, g4, g5, g6, g7, g8, g9⟩ := hds p hp
        refine ⟨o, us, file, tf, flags, tg, inF, text, tt, hidT_get e1 (free e1 (fun v n z => ?_) fun z => ?_), g1, g2, g3, g4, g5, g6, g7, g8, g9⟩
        · rw [g2] at z
          cases z
        · rw [g2] at z
          cases z
          simp at g3
      · obtain ⟨bm, ob, b1, b2, b3, b4, b5, b6⟩ := hbm
        have n1 : bm ≠ mainGlobals := fun q => by
          obtain ⟨o, es, ep, e, hd, _⟩ := hn
          subst q
          rw [e] at b3
          cases b3
          rw [hd] at b6
          cases b6
        have n2 : bm ≠ p.2 := fun q => by
          subst q
          rw [tp] at b3
          cases b3
          cases b6
        exact ⟨bm, ob, b1, b2, n1, n2, hidT_get b3 (free b3 (fun v n z => by rw [b6] at z; cases z) fun z => by rw [b6] at z; cases z), b4, b5, b6⟩
      · obtain ⟨o, es, ep, e, hd, _⟩ := hn
        rw [z, tp] at e
        cases e
        cases hd
    have ez : Env0 P w K mg (hidT sz.heap H) callerA [] sz H := ⟨rfl, md, fun b o e => of_hidT e, Nat.le_of_eq (hidT_size _ _), trivial, fun b hb => absurd (show b ∈ ([] : List Addr) from hb) (by simp), hok, .of_eq hgn⟩
    refine codeAny_mono ((G _ kB (nsB hn) tb).run callerA [] sz H ⟨[.ref a], []⟩ [.ref a] [.ref a] _ _ rfl hr ez (hbt sz (.ref a)) (.cons rfl .nil) (hq H hT hS)) fun rz sy hy => ?_
    cases rz with
    | error e => exact hy.elim
    | ok fl =>
      cases fl with
      | next => exact hy.elim
      | brk => exact hy.elim
      | cont => exact hy.elim
      | ret u =>
        obtain ⟨v, Hy, osy, bry, un, oky, rv, qy⟩ := hy
        cases (show v = .bl true from qy)
        cases (show u = Value.bool true from rv)
        have same : ∀ b o, b ∉ cs.map (·.2) → sz.heap.get? b = some o → sy.heap.get? b = some o := fun b o nb e => by
          cases z : H b with
          | none => exact un.keep b o e z (fun q => absurd (show b ∈ ([] : List Addr) from q) (by simp)) (by simp)
          | some u =>
            rcases only b u z with y | ⟨_, ob, xs, y⟩
            · exact absurd y nb
            · subst y
              obtain ⟨g1, _⟩ := hok b _ z
              obtain ⟨g2, _⟩ := oky b _ (un.frzs b ob _ z)
              rw [e] at g1
              cases g1
              exact g2
        have grown : ∀ p ∈ cs, ∃ more : Array Value, sy.heap.get? p.2 = some { cls := .none, data := .fields more } := fun p hp => by
          obtain ⟨more, z⟩ := un.tbls p.2 #[] (hT p hp)
          exact ⟨_, oky p.2 _ z⟩
        refine ⟨rfl, ⟨fun b o e => ?_, fun b o e => ?_⟩, osy, bry⟩
        · by_cases hb : b ∈ cs.map (·.2)
          · obtain ⟨p, hp, ep⟩ := List.mem_map.mp hb
            subst ep
            obtain ⟨more, hm⟩ := grown p hp
            rw [tabs p hp] at e
            cases e
            exact .inr (.inl ⟨((hds p hp).tab (tabs p hp)).isCodeTable, rfl, #[], more, rfl, by rw [Array.empty_append]; exact hm⟩)
          · exact .inl (same b o hb e)
        · by_cases hb : b ∈ cs.map (·.2)
          · obtain ⟨p, hp, ep⟩ := List.mem_map.mp hb
            subst ep
            obtain ⟨more, hm⟩ := grown p hp
            exact ⟨_, hm⟩
          · exact ⟨o, same b o hb e⟩
  cases hk : K.lookup a with
  | some o =>
    have e := inK a o hk
    rw [ha] at e
    cases e
    refine main (fun b => if b ∈ cs.map (·.2) then some (.tbl #[]) else none) (fun p hp => if_pos (inT p hp)) (fun b u z => ?_) (.inr ⟨_, va.toArray, _, hk, rfl, rfl, rfl, by rw [List.size_toArray, ln]; exact hl, by simpa using rr⟩) (fun b u z => ?_) fun z => absurd (show (if a ∈ cs.map (·.2) then some (HO.tbl #[]) else none) = none from if_neg noTab) z
    · by_cases hb : b ∈ cs.map (·.2)
      · exact .inl hb
      · cases (if_neg hb).symm.trans z
    · by_cases hb : b ∈ cs.map (·.2)
      · cases (if_pos hb).symm.trans z
        exact isTab b hb
      · cases (if_neg hb).symm.trans z
  | none =>
    refine main (fun b => if b = a then some (.frz { cls := .type "list", data := .seq va.toArray } (.lst (ns.map V.int))) else if b ∈ cs.map (·.2) then some (.tbl #[]) else none)
      (fun p hp => (if_neg (show ¬ p.2 = a from fun z => noTab (by rw [← z]; exact inT p hp))).trans (if_pos (inT p hp))) (fun b u z => ?_) (.inl (.inr ⟨{ cls := .type "list", data := .seq va.toArray }, if_pos rfl⟩)) (fun b u z => ?_) fun _ => hk
    · by_cases hb : b = a
      · cases (if_pos hb).symm.trans z
        exact .inr ⟨hb, _, _, rfl⟩
      · by_cases hb2 : b ∈ cs.map (·.2)
        · exact .inl hb2
        · cases ((if_neg hb).trans (if_neg hb2)).symm.trans z
    · by_cases hb : b = a
      · cases (if_pos hb).symm.trans z
        subst hb
        exact ⟨ha, by rw [List.length_map]; exact hl, va, _, rr, ha⟩
      · by_cases hb2 : b ∈ cs.map (·.2)
        · cases ((if_neg hb).trans (if_pos hb2)).symm.trans z
          exact isTab b hb2
        · cases ((if_neg hb).trans (if_neg hb2)).symm.trans z
/-- the goal that the head leaves, from the law's promise; nms: the defs that hold generator expressions -/
theorem walkGT {l : PySem.W.OpenLaw} {n k : Nat} {q : Program} {loose : List Str} {XP : (Str → Option Value) → Heap → Prop} {YP : World → Heap → Prop} {d : DefRec} {K : Params → PySem.W.Frag} {sp : PySem.W.Frag → List (Addr × Addr) → Sp} {x : Str}
    (hr : Room k callerA) (hn : l.most = some n) (hn2 : n ≤ sizeLine) (hdf : d.params.defaults = []) (hY : ∀ (w : World) (h : Heap), YP w h → (K w.params).In h)
    (G : ∀ (w : World) (mg : Str → Option Value) (fa : Addr) (h : Heap), (K w.params).In h → h.Ns mainGlobals mg → mg d.name = some (.ref fa) →
      ∃ (fd : FuncData) (cs : List (Addr × Addr)), (∀ p ∈ cs, ∃ (y : Str) (dr : DefRec), (recsOf q).find? (fun e => e.name == y) = some dr ∧ PySem.W.tabIn (K w.params) y = some p ∧ (K w.params).lookup p.2 = none) ∧
        (∀ (s : Shared) (u : Value), BindsTo s fd ⟨[u], []⟩ [(x, u)]) ∧ ∀ bs : Heap, (K w.params).In bs → bs.Ns mainGlobals mg → (∀ p ∈ cs, GxR.TabB bs mg p.1 p.2) → FnG l.prog w (K w.params) mg bs k fa fd [x] (sp (K w.params) cs))
    (hq : ∀ (K : PySem.W.Frag) (cs : List (Addr × Addr)) (H : Hp) (a : Addr) (ns : List Int), ns.length ≤ n → (∀ p ∈ cs, H p.2 = some (.tbl #[])) → SqL K H a (ns.map V.int) → sp K cs [.ref a] H (fun v _ => v = .bl true) fun _ _ _ => False) :
    PySem.W.WalkO q loose XP YP l.row.toRowW d [] (fun f va => PySem.call f va) := by
  refine Att.attach_call hn hdf fun w sy sz mg mb fa o pm cd doc a va ns Gr Y ho hd hcd hmg hob hin hle hgn => ?_
  have inK := hY w _ Y
  obtain ⟨fd, cs, hcs, hbt, hG⟩ := G w mg fa _ inK Gr.T.g hmg
  have tb : ∀ p ∈ cs, PySem.W.CodeHd sz.heap p.1 p.2 ∧ sz.heap.get? p.2 = some { cls := .none, data := .fields #[] } := fun p hp => by
    obtain ⟨y, dr, h1, h2, _⟩ := hcs p hp
    exact PySem.W.tab_of Gr.T inK h1 h2
  exact lawGT inK Gr.T.g Gr.T.b Gr.T.builtins Gr.T.nolimit hgn (fun p hp => (tb p hp).2) (fun p hp => let ⟨_, _, _, _, z⟩ := hcs p hp; z) (fun p hp => (tb p hp).1) Gr.T.bmain hob hin (Nat.le_trans hle hn2) hr hG hbt fun H hT hS => hq _ cs H a ns hle hT hS
end Pk
/-! The mirror: what is a house, told of data. -/
namespace Pk
open PySem
def wholeD (lo hi : Int) : PyData → Bool
  | .int i => decide (lo ≤ i) && decide (i ≤ hi)
  | _ => false
def tupD (a b : Int) : PyData → Bool
  | .tuple ds => decide (a ≤ (ds.length : Int)) && decide ((ds.length : Int) ≤ b)
  | _ => false
def nameD : PyData → Bool
  | .str z => decide ((1 : Int) ≤ (z.length : Int)) && (decide ((z.length : Int) ≤ 8) && z.cps.toList.all smallC)
  | _ => false
def inS (zs : List Str) (d : PyData) : Bool := zs.any fun z => strIs z d
def farS : Int := 1000000000000000000
def greatS : Int := 100000000000000000000
def ways3 : List Str := ["both", "up", "down"]
def sorts2 : List Str := ["least", "most"]
def pairs3 : List Str := ["off", "most", "least"]
/-- a dial's numbers -/
def dialR : PyData → PyData → PyData → PyData → Bool
  | .int l, hi, up, down => wholeD (-farS) farS (.int l) && (wholeD l farS hi && (wholeD 1 1000000 up && wholeD 1 1000000 down))
  | _, _, _, _ => false
def dialD : PyData → Bool
  | .tuple [n, lo, hi, way, up, down] => nameD n && (inS ways3 way && dialR lo hi up down)
  | _ => false
def sayingD (ns : List Str) : PyData → Bool
  | .tuple [n, s, i] => inS ns n && (inS sorts2 s && wholeD (-greatS) greatS i)
  | _ => false
/-- two data that are the same text -/
def sameS : PyData → PyData → Bool
  | .str a, .str b => a == b
  | _, _ => false
def ruleD (ns : List Str) : PyData → Bool
  | .tuple [w, p, q] => strIs "one" w && (sayingD ns p && sayingD ns q)
  | .tuple [w, a, b, c] => inS pairs3 w && (inS ns a && (inS ns b && (!sameS a b && wholeD (-greatS) greatS c)))
  | _ => false
def formD : PyData → Bool
  | .tuple [d, r] => tupD 1 12 d && tupD 0 40 r
  | _ => false
/-- the name of a dial, as a text -/
def nameOf : PyData → Str
  | .tuple (.str z :: _) => z
  | _ => ""
/-- text below or alike -/
def leS (a b : Str) : Bool := !decide (b.cps.toList < a.cps.toList)
/-- the first faulty dial, from the k-th on; prev: the one ahead -/
def fDial (k : Nat) (prev : Option Str) : List PyData → Option Nat
  | [] => none
  | d :: ds => if dialD d = true then (match prev with
      | some p => if leS (nameOf d) p = true then some k else fDial (k + 1) (some (nameOf d)) ds
      | none => fDial (k + 1) (some (nameOf d)) ds) else some k
/-- the first faulty rule, from the k-th on, past: those ahead -/
def fRule (ns : List Str) (k : Nat) (past : List PyData) : List PyData → Option Nat
  | [] => none
  | r :: rs => if ruleD ns r = true then (if (past.any fun z => PyData.eqv z r) = true then some k else fRule ns (k + 1) (past ++ [r]) rs) else some k
def dialsOf : PyData → List PyData
  | .tuple (.tuple ds :: _) => ds
  | _ => []
def rulesOf : PyData → List PyData
  | .tuple [_, .tuple rs] => rs
  | _ => []
def faultD (d : PyData) : PyData :=
  if formD d = true then (match fDial 0 none (dialsOf d) with
    | some k => .tuple [.str "dial", .int k]
    | none => match fRule ((dialsOf d).map nameOf) 0 [] (rulesOf d) with
      | some k => .tuple [.str "rule", .int k]
      | none => .none)
  else .tuple [.str "house"]
end Pk
namespace Pk
open PySem L2
def topH (i : Nat) : Stmt := PySem.Challenge.pw_pawldials_k09_chains_by_rules.main.body.getD i (.Pass ⟨0, 0, 0, 0⟩)
abbrev sWhole : Stmt := topH 8
abbrev sTupOf : Stmt := topH 9
abbrev sIsName : Stmt := topH 22
abbrev sPrice : Stmt := topH 23
abbrev sIsDial : Stmt := topH 24
abbrev sIsSaying : Stmt := topH 25
abbrev sIsRule : Stmt := topH 26
abbrev sForm : Stmt := topH 33
abbrev sFDial : Stmt := topH 34
abbrev sFRule : Stmt := topH 35
abbrev sFault : Stmt := topH 36
/-- the built-in names that these defs ask -/
structure BltH (mg : Str → Option Value) : Prop where
  isinstance : mg "isinstance" = none
  bool : mg "bool" = none
  int : mg "int" = none
  str : mg "str" = none
  tuple : mg "tuple" = none
  list : mg "list" = none
  len : mg "len" = none
  all : mg "all" = none
  enumerate : mg "enumerate" = none
/-- the module's own constants -/
structure Cons (K : PySem.W.Frag) (mg : Str → Option Value) (W S R : Addr) : Prop where
  far : ∃ t, mg "FARTHEST" = some (.int farS t)
  great : ∃ t, mg "GREATEST" = some (.int greatS t)
  dear : ∃ t, mg "DEAREST" = some (.int 1000000 t)
  long : ∃ t, mg "LONGEST_NAME" = some (.int 8 t)
  dials : ∃ t, mg "MOST_DIALS" = some (.int 12 t)
  rules : ∃ t, mg "MOST_RULES" = some (.int 40 t)
  mW : mg "WAYS" = some (.ref W)
  mS : mg "SORTS" = some (.ref S)
  mR : mg "PAIR_RULES" = some (.ref R)
  ways : ∀ H, SqT K H W (ways3.map V.str)
  sorts : ∀ H, SqT K H S (sorts2.map V.str)
  pairs : ∀ H, SqT K H R (pairs3.map V.str)
def spWhole : Sp := fun vs H Q _ => ∃ (x : V) (d : PyData) (lo hi : Int), vs = [x, .int lo, .int hi] ∧ Tr H x d ∧ Q (.bl (wholeD lo hi d)) H
def spTupOf : Sp := fun vs H Q _ => ∃ (x : V) (d : PyData) (a b : Int), vs = [x, .int a, .int b] ∧ Tr H x d ∧ Q (.bl (tupD a b d)) H
def spPrice : Sp := fun vs H Q _ => ∃ (x : V) (d : PyData), vs = [x] ∧ Tr H x d ∧ Q (.bl (wholeD 1 1000000 d)) H
/-- all stays, but a table may grow -/
def Gr (P : Addr) (H H' : Hp) : Prop := GxR.TabG H' P ∧ ∀ b o, b ≠ P → H b = some o → H' b = some o
theorem Gr.of {P : Addr} {H H' : Hp} (h : GxR.Tabbed P H H') : Gr P H H' := ⟨h.1, fun b o hb e => by rw [h.2 b hb]; exact e⟩
theorem Gr.refl {P : Addr} {H : Hp} (h : GxR.TabG H P) : Gr P H H := ⟨h, fun _ _ _ e => e⟩
theorem Gr.trans {P : Addr} {H H1 H2 : Hp} (a : Gr P H H1) (b : Gr P H1 H2) : Gr P H H2 := ⟨b.1, fun c o hc e => b.2 c o hc (a.2 c o hc e)⟩
theorem Gr.same {P : Addr} {H H' : Hp} (t : GxR.TabG H P) (s : Same H H') : Gr P H H' := ⟨let ⟨ps, h1, h2⟩ := t; ⟨ps, s _ _ h1, h2⟩, fun b o _ e => s b o e⟩
mutual
theorem Tr.gr {P : Addr} {H H' : Hp} (t : GxR.TabG H P) (g : Gr P H H') : ∀ {v : V} {d : PyData}, Tr H v d → Tr H' v d
  | _, _, .non => .non
  | _, _, .bl b => .bl b
  | _, _, .int i => .int i
  | _, _, .str x => .str x
  | _, _, .lst h a => .lst (g.2 _ _ (let ⟨_, z, _⟩ := t; ne_of h z (by intro y; cases y)) h) (TrAll.gr t g a)
  | _, _, .tup h a => .tup (g.2 _ _ (let ⟨_, z, _⟩ := t; ne_of h z (by intro y; cases y)) h) (TrAll.gr t g a)
  | _, _, .dct h n e a => .dct (g.2 _ _ (let ⟨_, z, _⟩ := t; ne_of h z (by intro y; cases y)) h) n e (TrAll.gr t g a)
theorem TrAll.gr {P : Addr} {H H' : Hp} (t : GxR.TabG H P) (g : Gr P H H') : ∀ {vs : List V} {ds : List PyData}, TrAll H vs ds → TrAll H' vs ds
  | _, _, .nil => .nil
  | _, _, .cons h u => .cons (Tr.gr t g h) (TrAll.gr t g u)
end
def spIsName (P : Addr) : Sp := fun vs H Q _ => ∃ (x : V) (d : PyData), vs = [x] ∧ Tr H x d ∧ GxR.TabG H P ∧ (∀ z, d = .str z → z.length ≤ sizeLine) ∧ ∀ H', Gr P H H' → Q (.bl (nameD d)) H'
section
variable {P : Program} {w : World} {K : PySem.W.Frag} {mg : Str → Option Value} {base : Heap} {W S R : Addr}
theorem wholeD_int (lo hi i : Int) : wholeD lo hi (.int i) = (decide (lo ≤ i) && decide (i ≤ hi)) := rfl
theorem scWhole : FnScope ["thing", "low", "high"] ["thing", "low", "high"] (defScope sWhole) := ⟨rfl, rfl, rfl, by decide +kernel, rfl, by decide +kernel, by decide +kernel⟩
theorem ok_whole {f : Addr} {fd : FuncData} (F : Fun K "is_whole" "is_whole" sWhole f fd) (B : BltH mg) : FnOk P w K mg base CX0 1 f fd ["thing", "low", "high"] spWhole := by
  refine F.ok scWhole (fun vs H Q E h => ?_) (fun cdv A outer s H vs Q E hr h => ?_)
  · obtain ⟨x, d, lo, hi, rfl, _⟩ := h
    rfl
  obtain ⟨x, d, lo, hi, rfl, t, k⟩ := h
  refine ⟨_, pss_cons (ps_if (PW.pt (pw_or (pt_val (pe_callB call_isT (by rfl) B.isinstance (by decide +kernel) (pa_cons (pv 0) (pa_cons (pe_bltn (v := .ty "bool") (by rfl) B.bool (by decide +kernel) rfl) pa_nil))))
      (pw_or1 (pt_not (pt_val (pe_callB call_isT (by rfl) B.isinstance (by decide +kernel) (pa_cons (pv 0) (pa_cons (pe_bltn (v := .ty "int") (by rfl) B.int (by decide +kernel) rfl) pa_nil)))))))) (pss_one (ps_ret pe_bl)) pss_nil) <|
    pss_one (ps_ret (pe_chain op_le op_le (pv 1) (pv 0) (pv 2))), ?_⟩
  refine ⟨_, rfl, x, "bool", d, isB, rfl, kB, t, _, rfl, ?_⟩
  have no : isI d = false → wholeD lo hi d = false → (H : Hp) → Tr H x d → True := fun _ _ _ _ => trivial
  cases t with
  | int i =>
    refine iteF ?_
    refine ⟨_, rfl, _, "int", _, isI, rfl, kI, .int i, _, rfl, iteF ?_⟩
    refine ⟨_, rfl, _, rfl, _, _, rfl, rfl, _, rfl, ?_⟩
    refine ite2 (fun c => ?_) (fun c => ?_)
    · refine ⟨_, rfl, _, _, rfl, rfl, ?_⟩
      have e : wholeD lo hi (.int i) = decide (i ≤ hi) := by rw [wholeD_int, c]; rfl
      rw [e] at k
      exact k
    · have e : wholeD lo hi (.int i) = false := by rw [wholeD_int, Bool.eq_false_iff.mpr c]; rfl
      rw [e] at k
      exact k
  | bl b => exact iteT k
  | non => exact iteF ⟨_, rfl, _, "int", _, isI, rfl, kI, .non, _, rfl, iteT k⟩
  | str z => exact iteF ⟨_, rfl, _, "int", _, isI, rfl, kI, .str z, _, rfl, iteT k⟩
  | lst h a => exact iteF ⟨_, rfl, _, "int", _, isI, rfl, kI, .lst h a, _, rfl, iteT k⟩
  | tup h a => exact iteF ⟨_, rfl, _, "int", _, isI, rfl, kI, .tup h a, _, rfl, iteT k⟩
  | dct h n e a => exact iteF ⟨_, rfl, _, "int", _, isI, rfl, kI, .dct h n e a, _, rfl, iteT k⟩
theorem scTupOf : FnScope ["thing", "least", "most"] ["thing", "least", "most"] (defScope sTupOf) := ⟨rfl, rfl, rfl, by decide +kernel, rfl, by decide +kernel, by decide +kernel⟩
theorem ok_tupOf {f : Addr} {fd : FuncData} (F : Fun K "is_tuple_of" "is_tuple_of" sTupOf f fd) (B : BltH mg) : FnOk P w K mg base CX0 1 f fd ["thing", "least", "most"] spTupOf := by
  refine F.ok scTupOf (fun vs H Q E h => ?_) (fun cdv A outer s H vs Q E hr h => ?_)
  · obtain ⟨x, d, lo, hi, rfl, _⟩ := h
    rfl
  obtain ⟨x, d, lo, hi, rfl, t, k⟩ := h
  refine ⟨_, pss_one (ps_ret (pe_and (pe_callB call_isT (by rfl) B.isinstance (by decide +kernel) (pa_cons (pv 0) (pa_cons (pe_bltn (v := .ty "tuple") (by rfl) B.tuple (by decide +kernel) rfl) pa_nil)))
    (pe_one (pe_chain op_le op_le (pv 1) (pe_callB call_len_seq (by rfl) B.len PySem.boot_len (pa_cons (pv 0) pa_nil)) (pv 2))))), ?_⟩
  refine ⟨_, rfl, x, "tuple", d, isTup, rfl, kT, t, _, rfl, ?_⟩
  cases t with
  | @tup a xs ds h al =>
    refine iteT ?_
    have el := al.length
    refine ⟨_, rfl, _, rfl, a, _, rfl, .inr (SqT.of h), _, _, rfl, rfl, _, rfl, ?_⟩
    refine ite2 (fun c => ?_) (fun c => ?_)
    · refine ⟨_, rfl, _, _, rfl, rfl, ?_⟩
      have e : tupD lo hi (.tuple ds) = decide (((xs.length : Nat) : Int) ≤ hi) := by show (decide (lo ≤ ((ds.length : Nat) : Int)) && decide (((ds.length : Nat) : Int) ≤ hi)) = _; rw [← el, c]; rfl
      rw [e] at k
      exact k
    · have e : tupD lo hi (.tuple ds) = false := by show (decide (lo ≤ ((ds.length : Nat) : Int)) && decide (((ds.length : Nat) : Int) ≤ hi)) = _; rw [← el, Bool.eq_false_iff.mpr c]; rfl
      rw [e] at k
      exact k
  | int i => exact iteF k
  | bl b => exact iteF k
  | non => exact iteF k
  | str z => exact iteF k
  | lst h a => exact iteF k
  | dct h n e a => exact iteF k
theorem scPrice : FnScope ["thing"] ["thing"] (defScope sPrice) := ⟨rfl, rfl, rfl, by decide +kernel, rfl, by decide +kernel, by decide +kernel⟩
theorem ok_price {f g : Addr} {fd gd : FuncData} (F : Fun K "is_price" "is_price" sPrice f fd) (G : FnOk P w K mg base CX0 1 g gd ["thing", "low", "high"] spWhole) (bG : Binds K gd ["thing", "low", "high"] []) (kG : PySem.W.keepIn K (.ref g) = true) (mG : mg "is_whole" = some (.ref g)) (C : Cons K mg W S R) : FnOk P w K mg base CX0 2 f fd ["thing"] spPrice := by
  refine F.ok scPrice (fun vs H Q E h => ?_) (fun cdv A outer s H vs Q E hr h => ?_)
  · obtain ⟨x, d, rfl, _⟩ := h
    rfl
  obtain ⟨x, d, rfl, t, k⟩ := h
  obtain ⟨tk, hdear⟩ := C.dear
  refine ⟨_, pss_one (ps_ret (pe_call G hr rfl mG kG bG .nil pass0 (pa_cons (pv 0) (pa_cons pe_int (pa_cons (pe_glob (v := .int 1000000) (by rfl) hdear ⟨_, rfl⟩) pa_nil))))), ?_⟩
  exact ⟨_, rfl, x, d, 1, 1000000, rfl, t, k⟩
/-- the scope of the generator expression over a name's signs -/
def scSign : Scope := { kind := .function, names := [((".0" : Str), NameKind.local), (("sign" : Str), NameKind.local)], isGenerator := true, isCoroutine := false }
theorem gsSign (env : Env) : GxR.GenS env scSign "sign" := by
  refine ⟨rfl, rfl, by decide +kernel, rfl, rfl, fun y hy e => ?_⟩
  have z : y = ((".0" : Str), NameKind.local) ∨ y = (("sign" : Str), NameKind.local) := by simpa [scSign] using hy
  rcases z with z | z
  · rw [z] at e
    cases e
  · rw [z] at e
    cases e
theorem nameD_str (z : Str) : nameD (.str z) = (decide ((1 : Int) ≤ (z.length : Int)) && (decide ((z.length : Int) ≤ 8) && z.cps.toList.all smallC)) := rfl
theorem scIsName : FnScope ["thing"] ["thing"] (defScope sIsName) := ⟨rfl, rfl, rfl, by decide +kernel, rfl, by decide +kernel, by decide +kernel⟩
theorem ok_isName {f c Pt : Addr} {oc : Value} {od an : Option Addr} {osl : Array (Option Value)} {kV doc pm ct : Value} (lk : K.lookup f = some ⟨oc, od, .func (PySem.W.fnOf "is_name" "is_name" (defArgs sIsName) (defBody sIsName) (defScope sIsName) .none kV doc pm an (.ref c) ct), osl⟩) (hcd : PySem.W.codeIn K (.ref c) "is_name" = true)
    (TB : GxR.TabB base mg c Pt) (C : Cons K mg W S R) (B : BltH mg) : FnOk P w K mg base CX0 2 f (PySem.W.fnOf "is_name" "is_name" (defArgs sIsName) (defBody sIsName) (defScope sIsName) .none kV doc pm an (.ref c) ct) ["thing"] (spIsName Pt) := by
  refine fn_of lk hcd scIsName (fun vs H Q E h => ?_) (fun A outer s H vs Q E hr h => ?_)
  · obtain ⟨x, d, rfl, _⟩ := h
    rfl
  obtain ⟨x, d, rfl, t, tg, hz, k⟩ := h
  obtain ⟨tk, hlong⟩ := C.long
  refine ⟨_, PSs.nox (pss_cons (ps_if (PW.pt (pw_or (pt_not (pt_val (pe_callB call_isT (by rfl) B.isinstance (by decide +kernel) (pa_cons (pv 0) (pa_cons (pe_bltn (v := .ty "str") (by rfl) B.str (by decide +kernel) rfl) pa_nil)))))
      (pw_or1 (pt_not (pt_chain op_le op_le pe_int (pe_callB call_len_str (by rfl) B.len PySem.boot_len (pa_cons (pv 0) pa_nil)) (pe_glob (v := .int 8) (by rfl) hlong ⟨_, rfl⟩)))))) (pss_one (ps_ret pe_bl)) pss_nil) <|
    pss_one (ps_ret (GxR.pe_allS hr (by rfl) B.all (by decide +kernel) TB rfl (gsSign _) (pv 0) (elt_az rfl rfl) (fun _ => rfl)))), ?_⟩
  refine ⟨_, rfl, x, "str", d, isStr, rfl, kS, t, _, rfl, ?_⟩
  cases t with
  | str z =>
    refine iteF ?_
    have hz := hz z rfl
    refine ⟨_, rfl, _, rfl, hz, _, _, rfl, rfl, _, rfl, ?_⟩
    refine ite2 (fun c1 => ?_) (fun c1 => ?_)
    · refine ⟨_, _, rfl, rfl, _, rfl, ?_⟩
      cases c2 : decide ((z.length : Int) ≤ 8) with
      | true =>
        refine iteF ⟨_, rfl, z, rfl, tg, fun H2 tb => ?_⟩
        have e : nameD (.str z) = z.cps.toList.all smallC := by rw [nameD_str, c1, c2]; rfl
        have q := k H2 (Gr.of tb)
        rw [e] at q
        exact q
      | false =>
        have e : nameD (.str z) = false := by rw [nameD_str, c1, c2]; rfl
        have q := k H (Gr.refl tg)
        rw [e] at q
        exact iteT q
    · have e : nameD (.str z) = false := by rw [nameD_str, Bool.eq_false_iff.mpr c1]; rfl
      have q := k H (Gr.refl tg)
      rw [e] at q
      exact ⟨_, rfl, iteT q⟩
  | int i => exact iteT (k H (Gr.refl tg))
  | bl b => exact iteT (k H (Gr.refl tg))
  | non => exact iteT (k H (Gr.refl tg))
  | tup h a => exact iteT (k H (Gr.refl tg))
  | lst h a => exact iteT (k H (Gr.refl tg))
  | dct h n e a => exact iteT (k H (Gr.refl tg))
end
end Pk
namespace Pk
open PySem L2
mutual
/-- texts in it are not too long -/
def okS : PyData → Bool
  | .str z => decide (z.length ≤ 100000)
  | .list xs | .tuple xs => okSs xs
  | .dict es => okKv es
  | .none | .bool _ | .int _ => true
def okSs : List PyData → Bool
  | [] => true
  | x :: xs => okS x && okSs xs
def okKv : List (PyData × PyData) → Bool
  | [] => true
  | (_, x) :: xs => okS x && okKv xs
end
theorem okSs_get : ∀ {ds : List PyData} {i : Nat} {d : PyData}, okSs ds = true → ds[i]? = some d → okS d = true
  | [], i, d, _, h => by simp at h
  | x :: xs, 0, d, e, h => by
    cases (show some x = some d from h)
    rw [okSs, Bool.and_eq_true] at e
    exact e.1
  | x :: xs, i + 1, d, e, h => by
    rw [okSs, Bool.and_eq_true] at e
    exact okSs_get (i := i) e.2 h
theorem okS_str {d : PyData} (h : okS d = true) : ∀ z, d = .str z → z.length ≤ sizeLine := fun z e => by
  subst e
  simp only [okS, decide_eq_true_eq] at h
  have := sizeLine_eq
  omega
theorem tupD6 {d : PyData} (h : tupD 6 6 d = true) : ∃ a b c e f g, d = .tuple [a, b, c, e, f, g] := by
  cases d with
  | tuple ds =>
    simp only [tupD, Bool.and_eq_true, decide_eq_true_eq] at h
    match ds, h with
    | [a, b, c, e, f, g], _ => exact ⟨a, b, c, e, f, g, rfl⟩
    | [], h => simp at h
    | [_], h => simp at h
    | [_, _], h => simp at h
    | [_, _, _], h => simp at h
    | [_, _, _, _], h => simp at h
    | [_, _, _, _, _], h => simp at h
    | _ :: _ :: _ :: _ :: _ :: _ :: _ :: _, h => simp at h; omega
  | _ => cases h
theorem tupD_not6 {d : PyData} (h : tupD 6 6 d = false) : dialD d = false := by
  unfold dialD
  split
  · cases (show true = false from h)
  · rfl
def spIsDial (Pt : Addr) : Sp := fun vs H Q _ => ∃ (x : V) (d : PyData), vs = [x] ∧ Tr H x d ∧ GxR.TabG H Pt ∧ okS d = true ∧ ∀ H', Gr Pt H H' → Q (.bl (dialD d)) H'
section
variable {P : Program} {w : World} {K : PySem.W.Frag} {mg : Str → Option Value} {base : Heap} {W S R Pt : Addr}
theorem scIsDial : FnScope ["thing", "name", "low", "high", "way", "up", "down"] ["thing"] (defScope sIsDial) := ⟨rfl, rfl, rfl, by decide +kernel, rfl, by decide +kernel, by decide +kernel⟩
theorem ok_isDial {f g1 g2 g3 g4 : Addr} {fd d1 d2 d3 d4 : FuncData} (F : Fun K "is_dial" "is_dial" sIsDial f fd)
    (G1 : FnOk P w K mg base CX0 1 g1 d1 ["thing", "low", "high"] spWhole) (b1 : Binds K d1 ["thing", "low", "high"] []) (k1 : PySem.W.keepIn K (.ref g1) = true) (m1 : mg "is_whole" = some (.ref g1))
    (G2 : FnOk P w K mg base CX0 1 g2 d2 ["thing", "least", "most"] spTupOf) (b2 : Binds K d2 ["thing", "least", "most"] []) (k2 : PySem.W.keepIn K (.ref g2) = true) (m2 : mg "is_tuple_of" = some (.ref g2))
    (G3 : FnOk P w K mg base CX0 2 g3 d3 ["thing"] (spIsName Pt)) (b3 : Binds K d3 ["thing"] []) (k3 : PySem.W.keepIn K (.ref g3) = true) (m3 : mg "is_name" = some (.ref g3))
    (G4 : FnOk P w K mg base CX0 2 g4 d4 ["thing"] spPrice) (b4 : Binds K d4 ["thing"] []) (k4 : PySem.W.keepIn K (.ref g4) = true) (m4 : mg "is_price" = some (.ref g4))
    (C : Cons K mg W S R) : FnOk P w K mg base CX0 3 f fd ["thing"] (spIsDial Pt) := by
  refine F.ok scIsDial (fun vs H Q E h => ?_) (fun cdv A outer s H vs Q E hr h => ?_)
  · obtain ⟨x, d, rfl, _⟩ := h
    rfl
  obtain ⟨x, d, rfl, t, tg, hz, k⟩ := h
  obtain ⟨tf, hfar⟩ := C.far
  have hu := hu_of hr
  have hr1 : Room 1 _ := hr.mono (by decide)
  refine ⟨_, pss_cons (ps_if (pt_not (pt_val (pe_call G2 hr1 rfl m2 k2 b2 .nil pass0 (pa_cons (pv 0) (pa_cons pe_int (pa_cons pe_int pa_nil)))))) (pss_one (ps_ret pe_bl)) pss_nil) <|
    pss_cons (ps_asg (pv 0) (pg_tup (by rfl) (pgs_cons (pg_name (i := 1) scIsDial.nd rfl (.inl rfl)) <| pgs_cons (pg_name (i := 2) scIsDial.nd rfl (.inl rfl)) <| pgs_cons (pg_name (i := 3) scIsDial.nd rfl (.inl rfl)) <|
      pgs_cons (pg_name (i := 4) scIsDial.nd rfl (.inl rfl)) <| pgs_cons (pg_name (i := 5) scIsDial.nd rfl (.inl rfl)) <| pgs_cons (pg_name (i := 6) scIsDial.nd rfl (.inl rfl)) pgs_nil))) <|
    pss_cons (ps_if (PW.pt (pw_or (pt_not (pt_val (pe_call G3 hr rfl m3 k3 b3 .nil pass0 (pa_cons (pv 1) pa_nil)))) (pw_or1 (pt_cmpR (op_notInS hu) (pv 4) (pe_glob (v := .ref W) (by rfl) C.mW rfl) (by rfl))))) (pss_one (ps_ret pe_bl)) pss_nil) <|
    pss_cons (ps_if (PW.pt (pw_or (pt_not (pt_val (pe_call G1 hr1 rfl m1 k1 b1 .nil pass0 (pa_cons (pv 2) (pa_cons (pe_un un_neg (pe_glob (v := .int farS) (by rfl) hfar ⟨_, rfl⟩)) (pa_cons (pe_glob (v := .int farS) (by rfl) hfar ⟨_, rfl⟩) pa_nil))))))
      (pw_or1 (pt_not (pt_val (pe_call G1 hr1 rfl m1 k1 b1 .nil pass0 (pa_cons (pv 3) (pa_cons (pv 2) (pa_cons (pe_glob (v := .int farS) (by rfl) hfar ⟨_, rfl⟩) pa_nil))))))))) (pss_one (ps_ret pe_bl)) pss_nil) <|
    pss_one (ps_ret (pe_and (pe_call G4 hr rfl m4 k4 b4 .nil pass0 (pa_cons (pv 5) pa_nil)) (pe_one (pe_call G4 hr rfl m4 k4 b4 .nil pass0 (pa_cons (pv 6) pa_nil))))), ?_⟩
  refine ⟨_, rfl, x, d, 6, 6, rfl, t, _, rfl, ?_⟩
  cases c1 : tupD 6 6 d with
  | false =>
    have q := k H (Gr.refl tg)
    rw [tupD_not6 c1] at q
    exact iteT q
  | true =>
    refine iteF ?_
    obtain ⟨da, db, dc, dd, de, df, rfl⟩ := tupD6 c1
    cases t with
    | @tup a xs _ h al =>
    match xs, al with
    | [xa, xb, xc, xd, xe, xf], .cons ta (.cons tb (.cons tc (.cons td (.cons te (.cons tf' .nil))))) =>
    simp only [okS, okSs, Bool.and_eq_true] at hz
    refine ⟨_, rfl, a, _, rfl, SqT.of h, rfl, ?_⟩
    refine ⟨_, _, rfl, _, _, rfl, _, _, rfl, _, _, rfl, _, _, rfl, _, _, rfl, rfl, ?_⟩
    refine ⟨_, rfl, xa, da, rfl, ta, tg, okS_str hz.1, fun H1 gr => ⟨_, rfl, ?_⟩⟩
    have q := k H1 gr
    have tg1 := gr.1
    have ed : dialD (.tuple [da, db, dc, dd, de, df]) = (nameD da && (inS ways3 dd && dialR db dc de df)) := rfl
    rw [ed] at q
    cases c2 : nameD da with
    | false =>
      rw [c2] at q
      exact iteT q
    | true =>
      rw [c2] at q
      refine iteF ?_
      refine ⟨_, rfl, dd, W, _, td.gr tg gr, rfl, .inr (C.ways H1), _, rfl, ?_⟩
      have q : Q (.bl (inS ways3 dd && dialR db dc de df)) H1 := q
      cases c3 : inS ways3 dd with
      | false =>
        rw [c3] at q
        have c3' : (ways3.any fun z => strIs z dd) = false := c3
        rw [c3']
        exact iteT q
      | true =>
        rw [c3] at q
        have c3' : (ways3.any fun z => strIs z dd) = true := c3
        rw [c3']
        refine iteF ?_
        refine ⟨_, rfl, _, rfl, xb, db, -farS, farS, rfl, tb.gr tg gr, _, rfl, ?_⟩
        cases c4 : wholeD (-farS) farS db with
        | false =>
          have e : dialR db dc de df = false := by
            cases db with
            | int l =>
              show (wholeD (-farS) farS (.int l) && _) = false
              rw [c4]
              rfl
            | _ => rfl
          rw [e] at q
          exact iteT q
        | true =>
          refine iteF ?_
          cases tb with
          | int l =>
            have q : Q (.bl (wholeD (-farS) farS (.int l) && (wholeD l farS dc && (wholeD 1 1000000 de && wholeD 1 1000000 df)))) H1 := q
            rw [c4] at q
            have q : Q (.bl (wholeD l farS dc && (wholeD 1 1000000 de && wholeD 1 1000000 df))) H1 := q
            refine ⟨_, rfl, _, rfl, xc, dc, l, farS, rfl, tc.gr tg gr, _, rfl, ?_⟩
            cases c5 : wholeD l farS dc with
            | false =>
              rw [c5] at q
              exact iteT q
            | true =>
              rw [c5] at q
              have q : Q (.bl (wholeD 1 1000000 de && wholeD 1 1000000 df)) H1 := q
              refine iteF ⟨_, rfl, xe, de, rfl, te.gr tg gr, _, rfl, ?_⟩
              cases c6 : wholeD 1 1000000 de with
              | false =>
                rw [c6] at q
                exact iteF q
              | true =>
                rw [c6] at q
                exact iteT ⟨_, rfl, xf, df, rfl, tf'.gr tg gr, q⟩
          | non => cases c4
          | bl b => cases c4
          | str z => cases c4
          | lst _ _ => cases c4
          | tup _ _ => cases c4
          | dct _ _ _ _ => cases c4
end
end Pk
namespace Pk
open PySem L2
theorem walk_enumT {K : PySem.W.Frag} {a : Addr} {xs : List V} : Walk (IteT K a) xs.length (fun H => SqT K H a xs) (YPair (fun i => some (.int (i : Nat))) (fun i => xs[i]?)) where
  goes := fun i H hi h => ⟨xs, xs[i], h, by simp [hi]⟩
  stops := fun H h => ⟨xs, h, Nat.le_refl _⟩
  yields := fun i H x H' hi h ⟨T, y, e1, e2, e3, e4⟩ => ⟨T, .int (i : Nat), y, e1, e2, e3, rfl, e4 xs h⟩
theorem tupD3 {d : PyData} (h : tupD 3 3 d = true) : ∃ a b c, d = .tuple [a, b, c] := by
  cases d with
  | tuple ds =>
    simp only [tupD, Bool.and_eq_true, decide_eq_true_eq] at h
    match ds, h with
    | [a, b, c], _ => exact ⟨a, b, c, rfl⟩
    | [], h => simp at h
    | [_], h => simp at h
    | [_, _], h => simp at h
    | _ :: _ :: _ :: _ :: _, h => simp at h; omega
  | _ => cases h
theorem tupD4 {d : PyData} (h : tupD 4 4 d = true) : ∃ a b c e, d = .tuple [a, b, c, e] := by
  cases d with
  | tuple ds =>
    simp only [tupD, Bool.and_eq_true, decide_eq_true_eq] at h
    match ds, h with
    | [a, b, c, e], _ => exact ⟨a, b, c, e, rfl⟩
    | [], h => simp at h
    | [_], h => simp at h
    | [_, _], h => simp at h
    | [_, _, _], h => simp at h
    | _ :: _ :: _ :: _ :: _ :: _, h => simp at h; omega
  | _ => cases h
theorem tupD2 {d : PyData} (h : tupD 2 2 d = true) : ∃ a b, d = .tuple [a, b] := by
  cases d with
  | tuple ds =>
    simp only [tupD, Bool.and_eq_true, decide_eq_true_eq] at h
    match ds, h with
    | [a, b], _ => exact ⟨a, b, rfl⟩
    | [], h => simp at h
    | [_], h => simp at h
    | _ :: _ :: _ :: _, h => simp at h; omega
  | _ => cases h
theorem sayD_not {ns : List Str} {d : PyData} (h : tupD 3 3 d = false) : sayingD ns d = false := by
  unfold sayingD
  split
  · cases (show true = false from h)
  · rfl
theorem inS_str {zs : List Str} {d : PyData} (h : inS zs d = true) : ∃ z, d = .str z := by
  unfold inS at h
  obtain ⟨z, _, hz⟩ := List.any_eq_true.mp h
  cases d with
  | str y => exact ⟨y, rfl⟩
  | _ => cases hz
def spIsSaying : Sp := fun vs H Q _ => ∃ (a : Addr) (ns : List Str) (x : V) (d : PyData), vs = [.ref a, x] ∧ H a = some (.lst (ns.map V.str)) ∧ Tr H x d ∧ Q (.bl (sayingD ns d)) H
def spIsRule : Sp := fun vs H Q _ => ∃ (a : Addr) (ns : List Str) (x : V) (d : PyData), vs = [.ref a, x] ∧ H a = some (.lst (ns.map V.str)) ∧ Tr H x d ∧ Q (.bl (ruleD ns d)) H
def spForm : Sp := fun vs H Q _ => ∃ (x : V) (d : PyData), vs = [x] ∧ Tr H x d ∧ Q (.bl (formD d)) H
section
variable {P : Program} {w : World} {K : PySem.W.Frag} {mg : Str → Option Value} {base : Heap} {W S R Pt : Addr}
theorem scIsSaying : FnScope ["names", "thing", "name", "sort", "i"] ["names", "thing"] (defScope sIsSaying) := ⟨rfl, rfl, rfl, by decide +kernel, rfl, by decide +kernel, by decide +kernel⟩
theorem ok_isSaying {f g1 g2 : Addr} {fd d1 d2 : FuncData} (F : Fun K "is_saying" "is_saying" sIsSaying f fd)
    (G1 : FnOk P w K mg base CX0 1 g1 d1 ["thing", "low", "high"] spWhole) (b1 : Binds K d1 ["thing", "low", "high"] []) (k1 : PySem.W.keepIn K (.ref g1) = true) (m1 : mg "is_whole" = some (.ref g1))
    (G2 : FnOk P w K mg base CX0 1 g2 d2 ["thing", "least", "most"] spTupOf) (b2 : Binds K d2 ["thing", "least", "most"] []) (k2 : PySem.W.keepIn K (.ref g2) = true) (m2 : mg "is_tuple_of" = some (.ref g2))
    (C : Cons K mg W S R) : FnOk P w K mg base CX0 2 f fd ["names", "thing"] spIsSaying := by
  refine F.ok scIsSaying (fun vs H Q E h => ?_) (fun cdv A outer s H vs Q E hr h => ?_)
  · obtain ⟨a, ns, x, d, rfl, _⟩ := h
    rfl
  obtain ⟨a, ns, x, d, rfl, hns, t, q⟩ := h
  obtain ⟨tf, hgr⟩ := C.great
  have hu := hu_of hr
  refine ⟨_, pss_cons (ps_if (pt_not (pt_val (pe_call G2 hr rfl m2 k2 b2 .nil pass0 (pa_cons (pv 1) (pa_cons pe_int (pa_cons pe_int pa_nil)))))) (pss_one (ps_ret pe_bl)) pss_nil) <|
    pss_cons (ps_asg (pv 1) (pg_tup (by rfl) (pgs_cons (pg_name (i := 2) scIsSaying.nd rfl (.inl rfl)) <| pgs_cons (pg_name (i := 3) scIsSaying.nd rfl (.inl rfl)) <| pgs_cons (pg_name (i := 4) scIsSaying.nd rfl (.inl rfl)) pgs_nil))) <|
    pss_one (ps_ret (pe_and (pe_cmpR (op_inS hu) (pv 2) (pv 0) (by rfl)) (pe_and (pe_cmpR (op_inS hu) (pv 3) (pe_glob (v := .ref S) (by rfl) C.mS rfl) (by rfl))
      (pe_one (pe_call G1 hr rfl m1 k1 b1 .nil pass0 (pa_cons (pv 4) (pa_cons (pe_un un_neg (pe_glob (v := .int greatS) (by rfl) hgr ⟨_, rfl⟩)) (pa_cons (pe_glob (v := .int greatS) (by rfl) hgr ⟨_, rfl⟩) pa_nil)))))))), ?_⟩
  refine ⟨_, rfl, x, d, 3, 3, rfl, t, _, rfl, ?_⟩
  cases c1 : tupD 3 3 d with
  | false =>
    rw [sayD_not c1] at q
    exact iteT q
  | true =>
    refine iteF ?_
    obtain ⟨da, db, dc, rfl⟩ := tupD3 c1
    cases t with
    | @tup b xs _ h al =>
    match xs, al with
    | [xa, xb, xc], .cons ta (.cons tb (.cons tc .nil)) =>
    refine ⟨_, rfl, b, _, rfl, SqT.of h, rfl, _, _, rfl, _, _, rfl, _, _, rfl, rfl, ?_⟩
    have q : Q (.bl (inS ns da && (inS sorts2 db && wholeD (-greatS) greatS dc))) H := q
    refine ⟨_, rfl, _, rfl, da, a, ns, ta, rfl, .inl (SqL.of hns), _, rfl, ?_⟩
    cases c2 : inS ns da with
    | false =>
      rw [c2] at q
      have c2' : (ns.any fun z => strIs z da) = false := c2
      rw [c2']
      exact iteF q
    | true =>
      rw [c2] at q
      have c2' : (ns.any fun z => strIs z da) = true := c2
      rw [c2']
      have q : Q (.bl (inS sorts2 db && wholeD (-greatS) greatS dc)) H := q
      refine iteT ⟨_, rfl, db, S, _, tb, rfl, .inr (C.sorts H), _, rfl, ?_⟩
      cases c3 : inS sorts2 db with
      | false =>
        rw [c3] at q
        have c3' : (sorts2.any fun z => strIs z db) = false := c3
        rw [c3']
        exact iteF q
      | true =>
        rw [c3] at q
        have c3' : (sorts2.any fun z => strIs z db) = true := c3
        rw [c3']
        exact iteT ⟨_, rfl, _, rfl, xc, dc, -greatS, greatS, rfl, tc, q⟩
theorem scIsRule : FnScope ["names", "thing", "word", "first", "second", "a", "b", "c"] ["names", "thing"] (defScope sIsRule) := ⟨rfl, rfl, rfl, by decide +kernel, rfl, by decide +kernel, by decide +kernel⟩
theorem ok_isRule {f g1 g2 g3 : Addr} {fd d1 d2 d3 : FuncData} (F : Fun K "is_rule" "is_rule" sIsRule f fd)
    (G1 : FnOk P w K mg base CX0 1 g1 d1 ["thing", "low", "high"] spWhole) (b1 : Binds K d1 ["thing", "low", "high"] []) (k1 : PySem.W.keepIn K (.ref g1) = true) (m1 : mg "is_whole" = some (.ref g1))
    (G2 : FnOk P w K mg base CX0 1 g2 d2 ["thing", "least", "most"] spTupOf) (b2 : Binds K d2 ["thing", "least", "most"] []) (k2 : PySem.W.keepIn K (.ref g2) = true) (m2 : mg "is_tuple_of" = some (.ref g2))
    (G3 : FnOk P w K mg base CX0 2 g3 d3 ["names", "thing"] spIsSaying) (b3 : Binds K d3 ["names", "thing"] []) (k3 : PySem.W.keepIn K (.ref g3) = true) (m3 : mg "is_saying" = some (.ref g3))
    (C : Cons K mg W S R) : FnOk P w K mg base CX0 3 f fd ["names", "thing"] spIsRule := by
  refine F.ok scIsRule (fun vs H Q E h => ?_) (fun cdv A outer s H vs Q E hr h => ?_)
  · obtain ⟨a, ns, x, d, rfl, _⟩ := h
    rfl
  obtain ⟨a, ns, x, d, rfl, hns, t, q⟩ := h
  obtain ⟨tf, hgr⟩ := C.great
  have hu := hu_of hr
  have hr1 : Room 1 _ := hr.mono (by decide)
  refine ⟨_, pss_cons (ps_if (pt_val (pe_call G2 hr1 rfl m2 k2 b2 .nil pass0 (pa_cons (pv 1) (pa_cons pe_int (pa_cons pe_int pa_nil)))))
      (pss_cons (ps_asg (pv 1) (pg_tup (by rfl) (pgs_cons (pg_name (i := 2) scIsRule.nd rfl (.inl rfl)) <| pgs_cons (pg_name (i := 3) scIsRule.nd rfl (.inl rfl)) <| pgs_cons (pg_name (i := 4) scIsRule.nd rfl (.inl rfl)) pgs_nil)))
      (pss_one (ps_ret (pe_and (pe_cmpR (op_eqS hu) (pv 2) pe_str (nomark _)) (pe_and (pe_call G3 hr rfl m3 k3 b3 .nil pass0 (pa_cons (pv 0) (pa_cons (pv 3) pa_nil))) (pe_one (pe_call G3 hr rfl m3 k3 b3 .nil pass0 (pa_cons (pv 0) (pa_cons (pv 4) pa_nil))))))))) pss_nil) <|
    pss_cons (ps_if (pt_val (pe_call G2 hr1 rfl m2 k2 b2 .nil pass0 (pa_cons (pv 1) (pa_cons pe_int (pa_cons pe_int pa_nil)))))
      (pss_cons (ps_asg (pv 1) (pg_tup (by rfl) (pgs_cons (pg_name (i := 2) scIsRule.nd rfl (.inl rfl)) <| pgs_cons (pg_name (i := 5) scIsRule.nd rfl (.inl rfl)) <| pgs_cons (pg_name (i := 6) scIsRule.nd rfl (.inl rfl)) <| pgs_cons (pg_name (i := 7) scIsRule.nd rfl (.inl rfl)) pgs_nil)))
      (pss_cons (ps_if (PW.pt (pw_or (pt_cmpR (op_notInS hu) (pv 2) (pe_glob (v := .ref R) (by rfl) C.mR rfl) (by rfl)) (pw_or (pt_cmpR (op_notInS hu) (pv 5) (pv 0) (by rfl)) (pw_or1 (pt_cmpR (op_notInS hu) (pv 6) (pv 0) (by rfl)))))) (pss_one (ps_ret pe_bl)) pss_nil)
      (pss_one (ps_ret (pe_and (pe_cmpR op_ne (pv 5) (pv 6) (nomark _)) (pe_one (pe_call G1 hr1 rfl m1 k1 b1 .nil pass0 (pa_cons (pv 7) (pa_cons (pe_un un_neg (pe_glob (v := .int greatS) (by rfl) hgr ⟨_, rfl⟩)) (pa_cons (pe_glob (v := .int greatS) (by rfl) hgr ⟨_, rfl⟩) pa_nil)))))))))) pss_nil) <|
    pss_one (ps_ret pe_bl), ?_⟩
  refine ⟨_, rfl, x, d, 3, 3, rfl, t, _, rfl, ?_⟩
  cases c1 : tupD 3 3 d with
  | true =>
    refine iteT ?_
    obtain ⟨da, db, dc, rfl⟩ := tupD3 c1
    cases t with
    | @tup b xs _ h al =>
    match xs, al with
    | [xa, xb, xc], .cons ta (.cons tb (.cons tc .nil)) =>
    refine ⟨_, rfl, b, _, rfl, SqT.of h, rfl, _, _, rfl, _, _, rfl, _, _, rfl, rfl, ?_⟩
    have q : Q (.bl (strIs "one" da && (sayingD ns db && sayingD ns dc))) H := q
    refine ⟨_, rfl, da, "one", ta, rfl, _, rfl, ?_⟩
    cases c2 : strIs "one" da with
    | false =>
      rw [c2] at q
      exact iteF q
    | true =>
      rw [c2] at q
      have q : Q (.bl (sayingD ns db && sayingD ns dc)) H := q
      refine iteT ⟨_, rfl, _, rfl, a, ns, xb, db, rfl, hns, tb, _, rfl, ?_⟩
      cases c3 : sayingD ns db with
      | false =>
        rw [c3] at q
        exact iteF q
      | true =>
        rw [c3] at q
        exact iteT ⟨_, rfl, _, rfl, a, ns, xc, dc, rfl, hns, tc, q⟩
  | false =>
    refine iteF ?_
    refine ⟨_, rfl, x, d, 4, 4, rfl, t, _, rfl, ?_⟩
    cases c4 : tupD 4 4 d with
    | false =>
      refine iteF ?_
      have e : ruleD ns d = false := by
        unfold ruleD
        split
        · cases (show true = false from c1)
        · cases (show true = false from c4)
        · rfl
      rw [e] at q
      exact q
    | true =>
      refine iteT ?_
      obtain ⟨dw, da, db, dc, rfl⟩ := tupD4 c4
      cases t with
      | @tup b xs _ h al =>
      match xs, al with
      | [xw, xa, xb, xc], .cons tw (.cons ta (.cons tb (.cons tc .nil))) =>
      refine ⟨_, rfl, b, _, rfl, SqT.of h, rfl, _, _, rfl, _, _, rfl, _, _, rfl, _, _, rfl, rfl, ?_⟩
      have q : Q (.bl (inS pairs3 dw && (inS ns da && (inS ns db && (!sameS da db && wholeD (-greatS) greatS dc))))) H := q
      refine ⟨_, rfl, dw, R, _, tw, rfl, .inr (C.pairs H), _, rfl, ?_⟩
      cases c5 : inS pairs3 dw with
      | false =>
        rw [c5] at q
        rw [show (pairs3.any fun z => strIs z dw) = false from c5]
        exact iteT q
      | true =>
        rw [c5] at q
        rw [show (pairs3.any fun z => strIs z dw) = true from c5]
        have q : Q (.bl (inS ns da && (inS ns db && (!sameS da db && wholeD (-greatS) greatS dc)))) H := q
        refine iteF ⟨_, rfl, _, rfl, da, a, ns, ta, rfl, .inl (SqL.of hns), _, rfl, ?_⟩
        cases c6 : inS ns da with
        | false =>
          rw [c6] at q
          rw [show (ns.any fun z => strIs z da) = false from c6]
          exact iteT q
        | true =>
          rw [c6] at q
          rw [show (ns.any fun z => strIs z da) = true from c6]
          have q : Q (.bl (inS ns db && (!sameS da db && wholeD (-greatS) greatS dc))) H := q
          refine iteF ⟨_, rfl, _, rfl, db, a, ns, tb, rfl, .inl (SqL.of hns), _, rfl, ?_⟩
          cases c7 : inS ns db with
          | false =>
            rw [c7] at q
            rw [show (ns.any fun z => strIs z db) = false from c7]
            exact iteT q
          | true =>
            rw [c7] at q
            rw [show (ns.any fun z => strIs z db) = true from c7]
            have q : Q (.bl (!sameS da db && wholeD (-greatS) greatS dc)) H := q
            refine iteF ?_
            obtain ⟨za, rfl⟩ := inS_str c6
            obtain ⟨zb, rfl⟩ := inS_str c7
            cases ta with
            | str _ =>
            cases tb with
            | str _ =>
            refine ⟨_, rfl, _, rfl, rfl, _, rfl, ?_⟩
            by_cases hab : za = zb
            · subst hab
              have e : sameS (.str za) (.str za) = true := by simp [sameS]
              rw [e] at q
              rw [decide_eq_true rfl]
              exact iteF q
            · have e : sameS (.str za) (.str zb) = false := by simpa [sameS] using hab
              rw [e] at q
              rw [decide_eq_false (fun z => hab (V.str.inj z))]
              exact iteT ⟨_, rfl, _, rfl, xc, dc, -greatS, greatS, rfl, tc, q⟩
end
end Pk
namespace Pk
open PySem L2
def optV : Option Nat → V
  | none => .non
  | some k => .int (k : Nat)
def spFDial (Pt : Addr) : Sp := fun vs H Q _ => ∃ (a : Addr) (xs : List V) (ds : List PyData), vs = [.ref a] ∧ H a = some (.tup xs) ∧ TrAll H xs ds ∧ GxR.TabG H Pt ∧ okSs ds = true ∧ xs.length ≤ 1000 ∧ ∀ H', Gr Pt H H' → Q (optV (fDial 0 none ds)) H'
theorem atV {xs : List V} {i : Nat} {x : V} (h : xs[i]? = some x) : atI xs ((i : Nat) : Int) = some x := atI_nat h
/-- a dial: its first thing is its name -/
theorem dial_name {d : PyData} (h : dialD d = true) {H : Hp} {x : V} (t : Tr H x d) : ∃ b xs, x = .ref b ∧ H b = some (.tup xs) ∧ xs[0]? = some (.str (nameOf d)) := by
  unfold dialD at h
  split at h
  · rename_i n lo hi way up down
    rw [Bool.and_eq_true] at h
    cases n with
    | str z =>
      cases t with
      | @tup b xs _ hb al =>
        cases al with
        | cons t0 _ =>
          cases t0
          exact ⟨b, _, rfl, hb, rfl⟩
    | _ => cases h.1
  · cases h
/-- the name of the dial ahead of the i-th -/
def prevAt (ds : List PyData) : Nat → Option Str
  | 0 => none
  | i + 1 => (ds[i]?).map nameOf
theorem fDial_cons (k : Nat) (prev : Option Str) (d : PyData) (ds : List PyData) : fDial k prev (d :: ds) = if dialD d = true then (match prev with
      | some p => if leS (nameOf d) p = true then some k else fDial (k + 1) (some (nameOf d)) ds
      | none => fDial (k + 1) (some (nameOf d)) ds) else some k := rfl
theorem fDial_step {ds : List PyData} {i : Nat} {d : PyData} (h : ds[i]? = some d) (hd : dialD d = true) (hp : ∀ p, prevAt ds i = some p → leS (nameOf d) p = false) : fDial i (prevAt ds i) (ds.drop i) = fDial (i + 1) (prevAt ds (i + 1)) (ds.drop (i + 1)) := by
  obtain ⟨hi, e⟩ := List.getElem?_eq_some_iff.mp h
  rw [List.drop_eq_getElem_cons hi, e, fDial_cons, if_pos hd]
  have ep : prevAt ds (i + 1) = some (nameOf d) := by
    show (ds[i]?).map nameOf = _
    rw [h]
    rfl
  rw [ep]
  cases c : prevAt ds i with
  | none => rfl
  | some p =>
    show (if leS (nameOf d) p = true then some i else _) = _
    rw [hp p c, if_neg Bool.false_ne_true]
theorem fDial_bad {ds : List PyData} {i : Nat} {d : PyData} (h : ds[i]? = some d) (hd : dialD d = false) : fDial i (prevAt ds i) (ds.drop i) = some i := by
  obtain ⟨hi, e⟩ := List.getElem?_eq_some_iff.mp h
  rw [List.drop_eq_getElem_cons hi, e, fDial_cons, if_neg (by rw [hd]; exact Bool.false_ne_true)]
theorem fDial_low {ds : List PyData} {i : Nat} {d : PyData} {p : Str} (h : ds[i]? = some d) (hd : dialD d = true) (hp : prevAt ds i = some p) (hl : leS (nameOf d) p = true) : fDial i (prevAt ds i) (ds.drop i) = some i := by
  obtain ⟨hi, e⟩ := List.getElem?_eq_some_iff.mp h
  rw [List.drop_eq_getElem_cons hi, e, hp, fDial_cons, if_pos hd]
  show (if leS (nameOf d) p = true then some i else _) = _
  rw [if_pos hl]
section
variable {P : Program} {w : World} {K : PySem.W.Frag} {mg : Str → Option Value} {base : Heap} {W S R Pt : Addr}
theorem scForm : FnScope ["thing"] ["thing"] (defScope sForm) := ⟨rfl, rfl, rfl, by decide +kernel, rfl, by decide +kernel, by decide +kernel⟩
theorem ok_form {f g2 : Addr} {fd d2 : FuncData} (F : Fun K "has_house_form" "has_house_form" sForm f fd)
    (G2 : FnOk P w K mg base CX0 1 g2 d2 ["thing", "least", "most"] spTupOf) (b2 : Binds K d2 ["thing", "least", "most"] []) (k2 : PySem.W.keepIn K (.ref g2) = true) (m2 : mg "is_tuple_of" = some (.ref g2))
    (C : Cons K mg W S R) : FnOk P w K mg base CX0 2 f fd ["thing"] spForm := by
  refine F.ok scForm (fun vs H Q E h => ?_) (fun cdv A outer s H vs Q E hr h => ?_)
  · obtain ⟨x, d, rfl, _⟩ := h
    rfl
  obtain ⟨x, d, rfl, t, q⟩ := h
  obtain ⟨t1, hd⟩ := C.dials
  obtain ⟨t2, hrl⟩ := C.rules
  refine ⟨_, pss_cons (ps_if (pt_not (pt_val (pe_call G2 hr rfl m2 k2 b2 .nil pass0 (pa_cons (pv 0) (pa_cons pe_int (pa_cons pe_int pa_nil)))))) (pss_one (ps_ret pe_bl)) pss_nil) <|
    pss_one (ps_ret (pe_and (pe_call G2 hr rfl m2 k2 b2 .nil pass0 (pa_cons (pe_ix ix_tup (pv 0) pe_int (fun _ _ => rfl)) (pa_cons pe_int (pa_cons (pe_glob (v := .int 12) (by rfl) hd ⟨_, rfl⟩) pa_nil))))
      (pe_one (pe_call G2 hr rfl m2 k2 b2 .nil pass0 (pa_cons (pe_ix ix_tup (pv 0) pe_int (fun _ _ => rfl)) (pa_cons pe_int (pa_cons (pe_glob (v := .int 40) (by rfl) hrl ⟨_, rfl⟩) pa_nil))))))), ?_⟩
  refine ⟨_, rfl, x, d, 2, 2, rfl, t, _, rfl, ?_⟩
  cases c1 : tupD 2 2 d with
  | false =>
    have e : formD d = false := by
      unfold formD
      split
      · cases (show true = false from c1)
      · rfl
    rw [e] at q
    exact iteT q
  | true =>
    refine iteF ?_
    obtain ⟨da, db, rfl⟩ := tupD2 c1
    cases t with
    | @tup b xs _ h al =>
    match xs, al with
    | [xa, xb], .cons ta (.cons tb .nil) =>
    have q : Q (.bl (tupD 1 12 da && tupD 0 40 db)) H := q
    refine ⟨_, rfl, b, _, _, _, rfl, rfl, SqT.of h, (rfl : atI [xa, xb] 0 = some xa), xa, da, 1, 12, rfl, ta, _, rfl, ?_⟩
    cases c2 : tupD 1 12 da with
    | false =>
      rw [c2] at q
      exact iteF q
    | true =>
      rw [c2] at q
      exact iteT ⟨_, rfl, b, _, _, _, rfl, rfl, SqT.of h, (rfl : atI [xa, xb] 1 = some xb), xb, db, 0, 40, rfl, tb, q⟩
theorem scFDial : FnScope ["dials", "k", "dial"] ["dials"] (defScope sFDial) := ⟨rfl, rfl, rfl, by decide +kernel, rfl, by decide +kernel, by decide +kernel⟩
theorem ok_fDial {f g : Addr} {fd gd : FuncData} (F : Fun K "faulty_dial" "faulty_dial" sFDial f fd)
    (G : FnOk P w K mg base CX0 3 g gd ["thing"] (spIsDial Pt)) (bG : Binds K gd ["thing"] []) (kG : PySem.W.keepIn K (.ref g) = true) (mG : mg "is_dial" = some (.ref g)) (B : BltH mg) : FnOk P w K mg base CX0 4 f fd ["dials"] (spFDial Pt) := by
  refine F.ok scFDial (fun vs H Q E h => ?_) (fun cdv A outer s H vs Q E hr h => ?_)
  · obtain ⟨a, xs, ds, rfl, _⟩ := h
    rfl
  obtain ⟨a, xs, ds, rfl, ha, al, tg, hok, hlen, k⟩ := h
  have hl := al.length
  refine ⟨_, pss_cons (ps_for PassesOwn.never rfl (pi_enumT (by rfl) B.enumerate (pa_cons (pv 0) pa_nil)) (pg_tup rfl (pgs_cons (pg_name (i := 1) scFDial.nd rfl (.inl rfl)) (pgs_cons (pg_name (i := 2) scFDial.nd rfl (.inl rfl)) pgs_nil)))
      (pss_cons (ps_if (pt_not (pt_val (pe_call G hr rfl mG kG bG .nil pass0 (pa_cons (pv 2) pa_nil)))) (pss_one (ps_ret (pv 1))) pss_nil)
      (pss_one (ps_if (PW.pt (pw_and (pt_cmpR op_gt (pv 1) pe_int (nomark _)) (pw_and1 (pt_cmpR op_le_str (pe_ix ix_tup (pv 2) pe_int (fun _ _ => rfl)) (pe_ix ix_tup (pe_ix ix_tup (pv 0) (pe_op op_sub (pv 1) pe_int) (fun _ _ => rfl)) pe_int (fun _ _ => rfl)) (nomark _))))) (pss_one (ps_ret (pv 1))) pss_nil)))) <|
    pss_one (ps_ret pe_non), ?_⟩
  have an : ∀ H2, Gr Pt H H2 → H2 a = some (.tup xs) := fun H2 g => g.2 _ _ (let ⟨_, z, _⟩ := tg; ne_of ha z (by intro y; cases y)) ha
  refine ⟨_, rfl, a, xs, rfl, SqT.of ha, for_it walk_enumT (fun i σ H2 => ∃ (v1 v2 : Option V), σ = [some (.ref a), v1, v2] ∧ Gr Pt H H2 ∧ fDial 0 none ds = fDial i (prevAt ds i) (ds.drop i) ∧ ∀ j, j < i → ∀ d, ds[j]? = some d → dialD d = true)
    ⟨none, none, rfl, Gr.refl tg, rfl, fun j hj => absurd hj (by omega)⟩ (fun i σ H2 _ ⟨_, _, _, g, _⟩ => SqT.of (an H2 g)) ?_ ?_⟩
  · rintro i y σ H2 H3 hi ⟨v1, v2, rfl, gr, ef, hall⟩ ⟨T, x1, x2, rfl, nT, rfl, e1, e2⟩
    cases e1
    have e2 : xs[i]? = some x2 := e2
    obtain ⟨d, hd, ht⟩ := al.get e2
    have sT := sameNew nT (.tup [.int (i : Nat), x2])
    have g3 : Gr Pt H (upd H2 T (.tup [.int (i : Nat), x2])) := gr.trans (Gr.same gr.1 sT)
    refine ⟨T, _, rfl, SqT.of upd_same, rfl, _, _, rfl, _, _, rfl, rfl, ?_⟩
    refine ⟨_, rfl, x2, d, rfl, ht.gr tg g3, g3.1, okSs_get hok hd, fun H4 g4 => ⟨_, rfl, ?_⟩⟩
    have g5 := g3.trans g4
    cases c1 : dialD d with
    | false =>
      have q := k H4 g5
      rw [ef, fDial_bad hd c1] at q
      exact iteT ⟨_, rfl, q⟩
    | true =>
      refine iteF ?_
      refine ⟨_, rfl, _, _, rfl, rfl, _, rfl, ?_⟩
      refine ite2 (fun c2 => ?_) (fun c2 => ?_)
      · have c2' : (0 : Int) < (i : Int) := of_decide_eq_true c2
        obtain ⟨j, rfl⟩ : ∃ j, i = j + 1 := ⟨i - 1, by omega⟩
        have hj : j < xs.length := by omega
        obtain ⟨dj, hdj, htj⟩ := al.get (List.getElem?_eq_getElem hj)
        have cj := hall j (by omega) dj hdj
        obtain ⟨b1, ys1, ex1, hb1, hn1⟩ := dial_name c1 (ht.gr tg g5)
        obtain ⟨b2, ys2, ex2, hb2, hn2⟩ := dial_name cj (htj.gr tg g5)
        subst ex1
        have ek : (((j + 1 : Nat) : Int) - 1) = ((j : Nat) : Int) := by omega
        refine ⟨_, rfl, b1, _, _, _, rfl, rfl, SqT.of hb1, atV (i := 0) hn1, _, rfl, _, rfl, _, _, rfl, rfl, a, xs, _, _, rfl, rfl, SqT.of (an H4 g5), (by rw [ek]; exact atV (List.getElem?_eq_getElem hj)), b2, ys2, _, _, ex2, rfl, SqT.of hb2, atV (i := 0) hn2, _, _, rfl, rfl, _, rfl, ?_⟩
        have pv : prevAt ds (j + 1) = some (nameOf dj) := by
          show (ds[j]?).map nameOf = _
          rw [hdj]
          rfl
        cases c3 : leS (nameOf d) (nameOf dj) with
        | true =>
          rw [show (!decide ((nameOf dj).cps.toList < (nameOf d).cps.toList)) = true from c3]
          have q := k H4 g5
          rw [ef, fDial_low hd c1 pv c3] at q
          exact iteT ⟨_, rfl, q⟩
        | false =>
          rw [show (!decide ((nameOf dj).cps.toList < (nameOf d).cps.toList)) = false from c3]
          refine iteF ⟨_, _, rfl, g5, ?_, fun m hm dm hdm => ?_⟩
          · rw [ef, fDial_step hd c1 fun p hp => by rw [pv] at hp; cases hp; exact c3]
          · by_cases em : m < j + 1
            · exact hall m em dm hdm
            · have em : m = j + 1 := by omega
              subst em
              rw [hd] at hdm
              cases hdm
              exact c1
      · have i0 : i = 0 := by
          have z := of_decide_eq_false (Bool.eq_false_iff.mpr c2)
          omega
        subst i0
        refine iteF ⟨_, _, rfl, g5, ?_, fun m hm dm hdm => ?_⟩
        · rw [ef, fDial_step hd c1 fun p hp => by cases hp]
        · have em : m = 0 := by omega
          subst em
          rw [hd] at hdm
          cases hdm
          exact c1
  · rintro σ H2 ⟨v1, v2, rfl, gr, ef, _⟩
    have q := k H2 gr
    rw [ef, hl, List.drop_length] at q
    exact q
end
end Pk
namespace Pk
open PySem L2
theorem take_more {α : Type} {ds : List α} {i : Nat} {d : α} (h : ds[i]? = some d) : ds.take (i + 1) = ds.take i ++ [d] := by
  rw [List.take_add_one, h]
  rfl
mutual
/-- data without dicts, as the layer reads it -/
theorem Tr.dp {K : PySem.W.Frag} {H : Hp} : ∀ {v : V} {d : PyData}, Tr H v d → d.hasDict = false → Dp K H v d
  | _, _, .non, _ => .non
  | _, _, .bl b, _ => .bl b
  | _, _, .int i, _ => .int i
  | _, _, .str x, _ => .str x
  | _, _, .lst h a, e => .lst (SqL.of h) (TrAll.dp a (by simpa only [PyData.hasDict] using e))
  | _, _, .tup h a, e => .tup (SqT.of h) (TrAll.dp a (by simpa only [PyData.hasDict] using e))
  | _, _, .dct _ _ _ _, e => by simp [PyData.hasDict] at e
theorem TrAll.dp {K : PySem.W.Frag} {H : Hp} : ∀ {vs : List V} {ds : List PyData}, TrAll H vs ds → PyData.hasDictAll ds = false → DpAll K H vs ds
  | _, _, .nil, _ => .nil
  | _, _, .cons h t, e => by
    simp only [PyData.hasDictAll, Bool.or_eq_false_iff] at e
    exact .cons (h.dp e.1) (TrAll.dp t e.2)
end
theorem whole_lay {lo hi : Int} {d : PyData} (h : wholeD lo hi d = true) : d.canLay0 = true ∧ d.depth = 0 := by
  cases d with
  | int i => exact ⟨by simp only [PyData.canLay0], by simp only [PyData.depth]⟩
  | _ => cases h
theorem strIs_is {z : Str} {d : PyData} (h : strIs z d = true) : d = .str z := by
  cases d with
  | str y =>
    have e : z = y := by simpa [strIs] using h
    rw [e]
  | _ => cases h
theorem inS_lay {zs : List Str} {d : PyData} (hn : ∀ z ∈ zs, PyData.strOk z = true) (h : inS zs d = true) : d.canLay0 = true ∧ d.depth = 0 := by
  unfold inS at h
  obtain ⟨z, hz, e⟩ := List.any_eq_true.mp h
  rw [strIs_is e]
  exact ⟨by simpa only [PyData.canLay0] using hn z hz, by simp only [PyData.depth]⟩
theorem sorts_ok : ∀ z ∈ sorts2, PyData.strOk z = true := by decide +kernel
theorem pairs_ok : ∀ z ∈ pairs3, PyData.strOk z = true := by decide +kernel
theorem say_lay {ns : List Str} {d : PyData} (hn : ∀ z ∈ ns, PyData.strOk z = true) (h : sayingD ns d = true) : d.canLay0 = true ∧ d.depth ≤ 1 := by
  unfold sayingD at h
  split at h
  · simp only [Bool.and_eq_true] at h
    obtain ⟨a1, a2⟩ := inS_lay hn h.1
    obtain ⟨b1, b2⟩ := inS_lay sorts_ok h.2.1
    obtain ⟨c1, c2⟩ := whole_lay h.2.2
    exact ⟨by simp [PyData.canLay0, PyData.canLayAll0, a1, b1, c1], by simp [PyData.depth, PyData.depthAll, a2, b2, c2]⟩
  · cases h
theorem rule_lay {ns : List Str} {d : PyData} (hn : ∀ z ∈ ns, PyData.strOk z = true) (h : ruleD ns d = true) : d.canLay0 = true ∧ d.depth ≤ 2 := by
  unfold ruleD at h
  split at h
  · simp only [Bool.and_eq_true] at h
    have e := strIs_is h.1
    subst e
    obtain ⟨b1, b2⟩ := say_lay hn h.2.1
    obtain ⟨c1, c2⟩ := say_lay hn h.2.2
    have o : PyData.strOk ("one" : Str) = true := by decide +kernel
    refine ⟨by simp [PyData.canLay0, PyData.canLayAll0, b1, c1, o], ?_⟩
    simp only [PyData.depth, PyData.depthAll]
    omega
  · simp only [Bool.and_eq_true] at h
    obtain ⟨a1, a2⟩ := inS_lay pairs_ok h.1
    obtain ⟨b1, b2⟩ := inS_lay hn h.2.1
    obtain ⟨c1, c2⟩ := inS_lay hn h.2.2.1
    obtain ⟨e1, e2⟩ := whole_lay h.2.2.2.2
    refine ⟨by simp [PyData.canLay0, PyData.canLayAll0, a1, b1, c1, e1], ?_⟩
    simp only [PyData.depth, PyData.depthAll]
    omega
  · cases h
theorem shaped_of {d : PyData} (h : d.canLay0 = true) (hd : d.depth ≤ 64) : SeqAt.shaped d = true := by
  unfold SeqAt.shaped
  rw [Bool.and_eq_true]
  exact ⟨h, decide_eq_true hd⟩
theorem all_lay : ∀ {ds : List PyData}, (∀ d ∈ ds, d.canLay0 = true ∧ d.depth ≤ 2) → PyData.canLayAll0 ds = true ∧ PyData.depthAll ds ≤ 2
  | [], _ => ⟨by simp only [PyData.canLayAll0], by simp [PyData.depthAll]⟩
  | d :: ds, h => by
    obtain ⟨a1, a2⟩ := h d List.mem_cons_self
    obtain ⟨b1, b2⟩ := all_lay fun e he => h e (List.mem_cons_of_mem _ he)
    refine ⟨by simp [PyData.canLayAll0, a1, b1], ?_⟩
    simp only [PyData.depthAll]
    omega
theorem noDict_of {d : PyData} (h : d.canLay0 = true) : d.hasDict = false := PyData.hasDict_of_canLay d h
theorem TrAll.take {H : Hp} : ∀ {xs : List V} {ds : List PyData} (n : Nat), TrAll H xs ds → TrAll H (xs.take n) (ds.take n)
  | _, _, 0, _ => .nil
  | _, _, _ + 1, .nil => .nil
  | _, _, n + 1, .cons h t => .cons h (TrAll.take n t)
theorem fRule_cons (ns : List Str) (k : Nat) (past : List PyData) (r : PyData) (rs : List PyData) : fRule ns k past (r :: rs) = if ruleD ns r = true then (if (past.any fun z => PyData.eqv z r) = true then some k else fRule ns (k + 1) (past ++ [r]) rs) else some k := rfl
theorem cut_take {xs : List V} {i : Nat} (h : i < xs.length) : cutV xs none (some (i : Int)) = xs.take i := by
  unfold cutV
  rw [HT.sIx_none, HT.sIx_nat]
  rw [Nat.min_eq_left (Nat.le_of_lt h), List.drop_zero, Nat.sub_zero]
def spFRule : Sp := fun vs H Q _ => ∃ (a b : Addr) (ns : List Str) (xs : List V) (rs : List PyData), vs = [.ref b, .ref a] ∧ H b = some (.lst (ns.map V.str)) ∧ (∀ z ∈ ns, PyData.strOk z = true) ∧ H a = some (.tup xs) ∧ TrAll H xs rs ∧ xs.length ≤ 1000 ∧ ∀ H', Same H H' → Q (optV (fRule ns 0 [] rs)) H'
section
variable {P : Program} {w : World} {K : PySem.W.Frag} {mg : Str → Option Value} {base : Heap} {W S R Pt : Addr}
theorem scFRule : FnScope ["names", "rules", "k", "rule"] ["names", "rules"] (defScope sFRule) := ⟨rfl, rfl, rfl, by decide +kernel, rfl, by decide +kernel, by decide +kernel⟩
theorem ok_fRule {f g : Addr} {fd gd : FuncData} (F : Fun K "faulty_rule" "faulty_rule" sFRule f fd)
    (G : FnOk P w K mg base CX0 3 g gd ["names", "thing"] spIsRule) (bG : Binds K gd ["names", "thing"] []) (kG : PySem.W.keepIn K (.ref g) = true) (mG : mg "is_rule" = some (.ref g)) (B : BltH mg) : FnOk P w K mg base CX0 4 f fd ["names", "rules"] spFRule := by
  refine F.ok scFRule (fun vs H Q E h => ?_) (fun cdv A outer s H vs Q E hr h => ?_)
  · obtain ⟨a, b, ns, xs, rs, rfl, _⟩ := h
    rfl
  obtain ⟨a, b, ns, xs, rs, rfl, hb, hn, ha, al, hlen, k⟩ := h
  have hl := al.length
  have hu65 : (A.deeper (PyProof.Rows.envOfC "faulty_rule" (defScope sFRule) s.heap.objs.size f cdv)).units + 65 < cLine := by
    have := hr.un
    omega
  refine ⟨_, pss_cons (ps_for PassesOwn.never rfl (pi_enumT (by rfl) B.enumerate (pa_cons (pv 1) pa_nil)) (pg_tup rfl (pgs_cons (pg_name (i := 2) scFRule.nd rfl (.inl rfl)) (pgs_cons (pg_name (i := 3) scFRule.nd rfl (.inl rfl)) pgs_nil)))
      (pss_one (ps_if (PW.pt (pw_or (pt_not (pt_val (pe_call G hr rfl mG kG bG .nil pass0 (pa_cons (pv 0) (pa_cons (pv 3) pa_nil))))) (pw_or1 (pt_cmpR (op_inDT hu65) (pv 3) (pe_slice sl_tup (pv 1) po_none (po_some (pv 2))) (by rfl))))) (pss_one (ps_ret (pv 2))) pss_nil))) <|
    pss_one (ps_ret pe_non), ?_⟩
  refine ⟨_, rfl, a, xs, rfl, SqT.of ha, for_it walk_enumT (fun i σ H2 => ∃ (v1 v2 : Option V), σ = [some (.ref b), some (.ref a), v1, v2] ∧ Same H H2 ∧ fRule ns 0 [] rs = fRule ns i (rs.take i) (rs.drop i) ∧ ∀ d ∈ rs.take i, ruleD ns d = true)
    ⟨none, none, rfl, Same.refl _, rfl, fun d hd => absurd hd (by simp)⟩ (fun i σ H2 _ ⟨_, _, _, g, _⟩ => SqT.of (g _ _ ha)) ?_ ?_⟩
  · rintro i y σ H2 H3 hi ⟨v1, v2, rfl, s2, ef, hall⟩ ⟨T, x1, x2, rfl, nT, rfl, e1, e2⟩
    cases e1
    have e2 : xs[i]? = some x2 := e2
    obtain ⟨d, hd, ht⟩ := al.get e2
    obtain ⟨hi2, ed⟩ := List.getElem?_eq_some_iff.mp hd
    have sT := sameNew nT (.tup [.int (i : Nat), x2])
    have s3 := s2.trans sT
    rw [List.drop_eq_getElem_cons hi2, ed, fRule_cons] at ef
    refine ⟨T, _, rfl, SqT.of upd_same, rfl, _, _, rfl, _, _, rfl, rfl, ?_⟩
    refine ⟨_, rfl, _, rfl, b, ns, x2, d, rfl, s3 _ _ hb, ht.same s3, _, rfl, ?_⟩
    cases c1 : ruleD ns d with
    | false =>
      rw [if_neg (by rw [c1]; exact Bool.false_ne_true)] at ef
      have q := k _ s3
      rw [ef] at q
      exact iteT ⟨_, rfl, q⟩
    | true =>
      rw [if_pos c1] at ef
      refine iteF ?_
      refine ⟨_, rfl, _, rfl, _, rfl, _, rfl, ?_⟩
      have hlt : i < xs.length := hi
      refine ⟨a, xs, rfl, SqT.of (s3 _ _ ha), fun ⟨_, z⟩ => ?_, fun p np => ?_⟩
      · rw [HT.sIx_nat] at z
        omega
      rw [cut_take hlt]
      have s5 := sameNew np (.tup (xs.take i))
      have s4 := s3.trans s5
      obtain ⟨y1, y2⟩ := rule_lay hn c1
      obtain ⟨z1, z2⟩ := all_lay fun e he => rule_lay hn (hall e he)
      have w1 : (PyData.tuple (rs.take i)).canLay0 = true := by simpa only [PyData.canLay0] using z1
      refine ⟨d, rs.take i, (ht.same s4).dp (noDict_of y1), Tr.dp (.tup upd_same ((al.same s4).take i)) (noDict_of w1), shaped_of y1 (by omega), shaped_of w1 (by simp only [PyData.depth]; omega), _, rfl, ?_⟩
      cases c2 : (rs.take i).any fun z => PyData.eqv z d with
      | true =>
        rw [if_pos c2] at ef
        have q := k _ s4
        rw [ef] at q
        exact iteT ⟨_, rfl, q⟩
      | false =>
        rw [if_neg (by rw [c2]; exact Bool.false_ne_true), ← take_more hd] at ef
        refine iteF ⟨_, _, rfl, s4, ef, fun e he => ?_⟩
        rw [take_more hd] at he
        rcases List.mem_append.mp he with he | he
        · exact hall e he
        · rw [List.mem_singleton.mp he]
          exact c1
  · rintro σ H2 ⟨v1, v2, rfl, s2, ef, _⟩
    have q := k H2 s2
    rw [ef, hl, List.drop_length] at q
    exact q
end
end Pk
namespace Pk
open PySem L2
def isN : PyData → Bool
  | .none => true
  | _ => false
theorem Tr.isN {H : Hp} {v : V} {d : PyData} (t : Tr H v d) : decide (v = .non) = Pk.isN d := by
  cases t <;> simp [Pk.isN]
def spFault (Pt : Addr) : Sp := fun vs H Q _ => ∃ (x : V) (d : PyData), vs = [x] ∧ Tr H x d ∧ GxR.TabG H Pt ∧ okS d = true ∧ ∀ v H', Gr Pt H H' → Tr H' v (faultD d) → Q v H'
def spHouse (Pt : Addr) : Sp := fun vs H Q _ => ∃ (x : V) (d : PyData), vs = [x] ∧ Tr H x d ∧ GxR.TabG H Pt ∧ okS d = true ∧ ∀ H', Gr Pt H H' → Q (.bl (isN (faultD d))) H'
theorem fDial_none : ∀ {ds : List PyData} {k : Nat} {p : Option Str}, fDial k p ds = none → ∀ d ∈ ds, dialD d = true
  | [], _, _, _, d, h => absurd h (by simp)
  | d :: ds, k, p, e, d', h => by
    rw [fDial_cons] at e
    by_cases c : dialD d = true
    · rw [if_pos c] at e
      have rest : ∀ {o : Option Str}, fDial (k + 1) o ds = none → dialD d' = true := fun {o} e2 => by
        rcases List.mem_cons.mp h with h | h
        · rw [h]; exact c
        · exact fDial_none e2 d' h
      cases p with
      | none => exact rest e
      | some p =>
        simp only at e
        by_cases c2 : leS (nameOf d) p = true
        · rw [if_pos c2] at e
          cases e
        · rw [if_neg c2] at e
          exact rest e
    · rw [if_neg c] at e
      cases e
theorem name_ok {d : PyData} (h : dialD d = true) : PyData.strOk (nameOf d) = true := by
  unfold dialD at h
  split at h
  · rename_i n lo hi way up down
    simp only [Bool.and_eq_true] at h
    cases n with
    | str z =>
      have h1 := h.1
      rw [nameD_str] at h1
      simp only [Bool.and_eq_true] at h1
      show PyData.strOk z = true
      unfold PyData.strOk
      have h2 := h1.2.2
      rw [Array.all_toList] at h2
      rw [Array.all_eq_true] at h2 ⊢
      intro i hi
      have q := h2 i hi
      simp only [smallC, Bool.and_eq_true, decide_eq_true_eq] at q
      simp only [decide_eq_true_eq]
      omega
    | _ => cases h.1
  · cases h
theorem form_is {d : PyData} (h : formD d = true) : ∃ ds rs, d = .tuple [.tuple ds, .tuple rs] ∧ ds.length ≤ 12 ∧ rs.length ≤ 40 := by
  unfold formD at h
  split at h
  · rename_i a b
    simp only [Bool.and_eq_true] at h
    cases a with
    | tuple ds =>
      cases b with
      | tuple rs =>
        have h1 := h.1
        have h2 := h.2
        simp only [tupD, Bool.and_eq_true, decide_eq_true_eq] at h1 h2
        exact ⟨ds, rs, rfl, by omega, by omega⟩
      | _ => cases h.2
    | _ => cases h.1
  · cases h
section
variable {P : Program} {w : World} {K : PySem.W.Frag} {mg : Str → Option Value} {base : Heap} {W S R Pt : Addr}
theorem scFault : FnScope ["thing", "dials", "rules", "k", "dial"] ["thing"] (defScope sFault) := ⟨rfl, rfl, rfl, by decide +kernel, rfl, by decide +kernel, by decide +kernel⟩
theorem ok_fault {f g1 g2 g3 : Addr} {fd d1 d2 d3 : FuncData} (F : Fun K "fault_of" "fault_of" sFault f fd)
    (G1 : FnOk P w K mg base CX0 2 g1 d1 ["thing"] spForm) (b1 : Binds K d1 ["thing"] []) (k1 : PySem.W.keepIn K (.ref g1) = true) (m1 : mg "has_house_form" = some (.ref g1))
    (G2 : FnOk P w K mg base CX0 4 g2 d2 ["dials"] (spFDial Pt)) (b2 : Binds K d2 ["dials"] []) (k2 : PySem.W.keepIn K (.ref g2) = true) (m2 : mg "faulty_dial" = some (.ref g2))
    (G3 : FnOk P w K mg base CX0 4 g3 d3 ["names", "rules"] spFRule) (b3 : Binds K d3 ["names", "rules"] []) (k3 : PySem.W.keepIn K (.ref g3) = true) (m3 : mg "faulty_rule" = some (.ref g3)) : FnOk P w K mg base CX0 5 f fd ["thing"] (spFault Pt) := by
  refine F.ok scFault (fun vs H Q E h => ?_) (fun cdv A outer s H vs Q E hr h => ?_)
  · obtain ⟨x, d, rfl, _⟩ := h
    rfl
  obtain ⟨x, d, rfl, t, tg, hz, k⟩ := h
  have hr1 : Room 2 _ := hr.mono (by decide)
  refine ⟨_, pss_cons (ps_if (pt_not (pt_val (pe_call G1 hr1 rfl m1 k1 b1 .nil pass0 (pa_cons (pv 0) pa_nil)))) (pss_one (ps_ret (pe_tup (pa_cons pe_str pa_nil)))) pss_nil) <|
    pss_cons (ps_asg (pv 0) (pg_tup (by rfl) (pgs_cons (pg_name (i := 1) scFault.nd rfl (.inl rfl)) <| pgs_cons (pg_name (i := 2) scFault.nd rfl (.inl rfl)) pgs_nil))) <|
    pss_cons (ps_set (i := 3) scFault.nd rfl (.inl rfl) (pe_call G2 hr rfl m2 k2 b2 .nil pass0 (pa_cons (pv 1) pa_nil))) <|
    pss_cons (ps_if (pt_cmpR op_notN (pv 3) pe_non (nomark _)) (pss_one (ps_ret (pe_tup (pa_cons pe_str (pa_cons (pv 3) pa_nil))))) pss_nil) <|
    pss_cons (ps_set (i := 3) scFault.nd rfl (.inl rfl) (pe_call G3 hr rfl m3 k3 b3 .nil pass0 (pa_cons (pe_lc (own := [("dial", 4)]) (g := gName 4) (by rfl) scFault.nd (pi_tup (pv 1)) (blkOk_by (N := ["thing", "dials", "rules", "k", "dial"]) (sc := defScope sFault) (by decide +kernel)) (fun _ _ _ _ _ => pg_name (i := 4) scFault.nd rfl (Or.inl rfl)) (fun _ _ _ _ _ => pts_nil) (fun _ _ _ _ _ => pe_ix (r := rIxT K) ix_tup (pv 4) pe_int (fun _ _ => rfl))) (pa_cons (pv 2) pa_nil)))) <|
    pss_cons (ps_if (pt_cmpR op_notN (pv 3) pe_non (nomark _)) (pss_one (ps_ret (pe_tup (pa_cons pe_str (pa_cons (pv 3) pa_nil))))) pss_nil) <|
    pss_one (ps_ret pe_non), ?_⟩
  refine ⟨_, rfl, x, d, rfl, t, _, rfl, ?_⟩
  cases c1 : formD d with
  | false =>
    refine iteT ⟨by show 1 ≤ sizeLine; decide, fun p np => ?_⟩
    refine k _ _ (Gr.same tg (sameNew np _)) ?_
    unfold faultD
    rw [if_neg (by rw [c1]; exact Bool.false_ne_true)]
    exact .tup upd_same (.cons (.str _) .nil)
  | true =>
    refine iteF ?_
    obtain ⟨ds, rs, rfl, l1, l2⟩ := form_is c1
    cases t with
    | @tup b xs _ h al =>
    match xs, al with
    | [xa, xb], .cons ta (.cons tb .nil) =>
    cases ta with
    | @tup a1 xs1 _ h1 al1 =>
    cases tb with
    | @tup a2 xs2 _ h2 al2 =>
    have z1 := al1.length
    have z2 := al2.length
    simp only [okS, okSs, Bool.and_eq_true] at hz
    have n1 : a1 ≠ Pt := let ⟨_, z, _⟩ := tg; ne_of h1 z (by intro y; cases y)
    have n2 : a2 ≠ Pt := let ⟨_, z, _⟩ := tg; ne_of h2 z (by intro y; cases y)
    refine ⟨_, rfl, b, _, rfl, SqT.of h, rfl, _, _, rfl, _, _, rfl, rfl, ?_⟩
    refine ⟨_, rfl, a1, xs1, ds, rfl, h1, al1, tg, hz.1, by omega, fun H1 g1 => ?_⟩
    have ef : faultD (.tuple [.tuple ds, .tuple rs]) = (match fDial 0 none ds with
      | some k => .tuple [.str "dial", .int k]
      | none => match fRule (ds.map nameOf) 0 [] rs with
        | some k => .tuple [.str "rule", .int k]
        | none => .none) := by
      unfold faultD
      rw [if_pos c1]
      rfl
    rw [ef] at k
    cases c2 : fDial 0 none ds with
    | some j =>
      rw [c2] at k
      refine ⟨_, rfl, rfl, _, rfl, iteT ?_⟩
      refine ⟨_, rfl, by show 2 ≤ sizeLine; decide, fun p np => ?_⟩
      exact k _ _ (g1.trans (Gr.same g1.1 (sameNew np _))) (.tup upd_same (.cons (.str _) (.cons (.int _) .nil)))
    | none =>
      rw [c2] at k
      have hall := fDial_none c2
      refine ⟨_, rfl, rfl, _, rfl, iteF ?_⟩
      have h1' := g1.2 _ _ n1 h1
      refine ⟨_, rfl, a1, rfl, ⟨_, SqT.of h1'⟩, fun D hD => lc_tup (K := K) (a := a1) (xs := xs1) (fun i H2 => H2 D = some (.lst (((ds.take i).map nameOf).map V.str)) ∧ Same H1 H2) ⟨by rw [List.take_zero]; exact upd_same, sameNew hD _⟩ (fun i H2 _ ⟨_, s2⟩ => SqT.of (s2 _ _ h1')) ?_ ?_⟩
      · rintro i y H2 hy ⟨e2, s2⟩
        obtain ⟨d, hd, hT⟩ := al1.get hy
        have cd := hall d (List.mem_of_getElem? hd)
        obtain ⟨b1, ys1, ex1, hb1, hn1⟩ := dial_name cd ((hT.gr tg g1).same s2)
        subst ex1
        have hi : i < xs1.length := (List.getElem?_eq_some_iff.mp hy).1
        refine ⟨rfl, _, rfl, b1, _, _, _, rfl, rfl, SqT.of hb1, atV (i := 0) hn1, _, e2, small1000 (by simp only [List.length_map, List.length_take]; omega), ?_, ?_⟩
        · rw [upd_same, take_more hd]
          simp
        · exact fun b o e => by rw [upd_ne (ne_of_none e hD)]; exact s2 _ _ e
      · rintro H2 ⟨e2, s2⟩
        rw [z1, List.take_length] at e2
        have gA : Gr Pt H H2 := g1.trans (Gr.same g1.1 s2)
        have sok : ∀ z ∈ ds.map nameOf, PyData.strOk z = true := fun z hz => by
          obtain ⟨d, hd, rfl⟩ := List.mem_map.mp hz
          exact name_ok (hall d hd)
        refine ⟨_, rfl, a2, D, _, xs2, rs, rfl, e2, sok, gA.2 _ _ n2 h2, al2.gr tg gA, by omega, fun H3 s3 => ?_⟩
        have gB := gA.trans (Gr.same gA.1 s3)
        simp only at k
        cases c3 : fRule (ds.map nameOf) 0 [] rs with
        | some j =>
          rw [c3] at k
          refine ⟨_, rfl, rfl, _, rfl, iteT ?_⟩
          refine ⟨_, rfl, by show 2 ≤ sizeLine; decide, fun p np => ?_⟩
          exact k _ _ (gB.trans (Gr.same gB.1 (sameNew np _))) (.tup upd_same (.cons (.str _) (.cons (.int _) .nil)))
        | none =>
          rw [c3] at k
          refine ⟨_, rfl, rfl, _, rfl, iteF ?_⟩
          exact k _ _ gB .non
end
end Pk
section
set_option maxHeartbeats 1000000
/-! Rules of my own: a list beside the empty one; a truth as a number; a tuple turned about; not in a list of data. -/
namespace Pk
open PySem L2
section
variable {X : Cx}
theorem op_eqNil (hu : X.A.units < cLine) : OpR X (compareOp .Eq) (fun x y H Q => ∃ (a b : Addr) (xs : List V), x = .ref a ∧ y = .ref b ∧ SqL X.K H a xs ∧ SqL X.K H b [] ∧ Q (.bl xs.isEmpty) H) := by
  intro pz s σ H x y v u Q I rx ry h
  obtain ⟨a, b, xs, rfl, rfl, ha, hb, q⟩ := h
  cases rx
  cases ry
  obtain ⟨its, r, hl, _⟩ := I.list ha
  obtain ⟨its2, r2, hl2, _⟩ := I.list hb
  cases r2
  cases r with
  | nil => exact SeqAt.eq_listAt (e := fun _ => true) hl.isList hl2.isList rfl hu (fun j h1 => absurd h1 (by simp)) ⟨.bl true, H, I, rfl, q⟩
  | cons _ _ => exact SeqAt.eq_list_lengthsAt hl.isList hl2.isList (by simp) hu ⟨.bl false, H, I, rfl, q⟩
theorem op_neNil (hu : X.A.units < cLine) : OpR X (compareOp .NotEq) (fun x y H Q => ∃ (a b : Addr) (xs : List V), x = .ref a ∧ y = .ref b ∧ SqL X.K H a xs ∧ SqL X.K H b [] ∧ Q (.bl (!xs.isEmpty)) H) := by
  intro pz s σ H x y v u Q I rx ry h
  obtain ⟨a, b, xs, rfl, rfl, ha, hb, q⟩ := h
  cases rx
  cases ry
  obtain ⟨its, r, hl, _⟩ := I.list ha
  obtain ⟨its2, r2, hl2, _⟩ := I.list hb
  cases r2
  cases r with
  | nil => exact SeqAt.RcNeAt.lists (e := fun _ => true) hl.isList hl2.isList rfl hu (fun j h1 => absurd h1 (by simp)) X.prog X.w X.xe _ ⟨.bl false, H, I, rfl, q⟩
  | cons _ _ => exact SeqAt.RcNeAt.lists_lengths hl.isList hl2.isList (by simp) hu X.prog X.w X.xe _ ⟨.bl true, H, I, rfl, q⟩
/-- a number, or a truth as one -/
def numV : V → Option Int
  | .int i => some i
  | .bl b => some (if b = true then 1 else 0)
  | _ => none
theorem op_addN : OpR X (binaryOp .Add) (fun x y H Q => ∃ i j, numV x = some i ∧ y = .int j ∧ Q (.int (i + j)) H) := by
  intro pz s σ H x y v u Q I rx ry h
  obtain ⟨i, j, hx, rfl, q⟩ := h
  cases x with
  | int n =>
    cases hx
    exact op_add pz s σ H _ _ v u Q I rx ry ⟨_, _, rfl, rfl, q⟩
  | bl b =>
    cases hx
    cases rx
    obtain ⟨t, rfl⟩ := ry
    exact PySem.IntBool.add_bool_int ⟨.int _, H, I.tok _, ⟨_, rfl⟩, q⟩
  | _ => cases hx
theorem op_subN : OpR X (binaryOp .Sub) (fun x y H Q => ∃ i j, numV x = some i ∧ y = .int j ∧ Q (.int (i - j)) H) := by
  intro pz s σ H x y v u Q I rx ry h
  obtain ⟨i, j, hx, rfl, q⟩ := h
  cases x with
  | int n =>
    cases hx
    exact op_sub pz s σ H _ _ v u Q I rx ry ⟨_, _, rfl, rfl, q⟩
  | bl b =>
    cases hx
    cases rx
    obtain ⟨t, rfl⟩ := ry
    exact PySem.IntBool.sub_bool_int ⟨.int _, H, I.tok _, ⟨_, rfl⟩, q⟩
  | _ => cases hx
theorem op_subM : OpR X (binaryOp .Sub) (fun x y H Q => ∃ i j, x = .int i ∧ numV y = some j ∧ Q (.int (i - j)) H) := by
  intro pz s σ H x y v u Q I rx ry h
  obtain ⟨i, j, rfl, hy, q⟩ := h
  cases y with
  | int n =>
    cases hy
    exact op_sub pz s σ H _ _ v u Q I rx ry ⟨_, _, rfl, rfl, q⟩
  | bl b =>
    cases hy
    cases ry
    obtain ⟨t, rfl⟩ := rx
    exact PySem.IntBool.sub_int_bool ⟨.int _, H, I.tok _, ⟨_, rfl⟩, q⟩
  | _ => cases hy
/-- the text of a number, or of a truth -/
def textV : V → Str
  | .int i => toString i
  | .bl b => if b then "True" else "False"
  | _ => ""
theorem call_strN : CallR X (.type "str") (fun xs H Q => ∃ x i, xs = [x] ∧ numV x = some i ∧ i.natAbs.log2 < 1920 ∧ Q (.str (textV x)) H) := by
  intro pz s σ H xs us Q I r h
  obtain ⟨x, i, rfl, hx, hz, q⟩ := h
  cases x with
  | int n =>
    cases hx
    exact call_str_int pz s σ H _ us Q I r ⟨_, rfl, hz, q⟩
  | bl b =>
    obtain ⟨u, rfl, r1⟩ := vals1 r
    cases r1
    exact PySem.P.str_of_bool ⟨.str _, H, I.tok _, ⟨_, rfl⟩, q⟩
  | _ => cases hx
end
end Pk
namespace Pk
open PySem PySem.Spec PyProof.Rows L2 HT
section
variable {prog : Program} {w : World} {A : Around} {E : Value → Shared → Prop} {s : Shared}
theorem applied_rev {sl : Addr} {vs : Value} {n : Nat} {Q : Int × Int × Nat → Shared → Prop} (hs : s.heap.IsSliceOf sl .none .none vs) (ps : IsPart vs (some (-1)))
    (h : Q ((n : Int) - 1, -1, n) s) : wpAny (model prog w) A (Builtin.Slice.sliceApplied (.ref sl) (pure (n : Int))) Q E s := by
  obtain ⟨os, hos, hcs, hds⟩ := id hs
  unfold Builtin.Slice.sliceApplied Builtin.Slice.sliceFields
  refine wpAny_bind (wpAny_bind (wpAny_field hos hds (x := .none) rfl (wpAny_bind (wpAny_field hos hds (x := .none) rfl (wpAny_bind (wpAny_field hos hds (x := vs) rfl (wpAny_pure ?_)))))))
  refine wpAny_bind (slicePart_ ps ?_)
  show wpAny _ _ (if ((-1 : Int) == 0) = true then _ else _) _ _ s
  rw [if_neg (by decide)]
  refine wpAny_bind (slicePart_none (wpAny_bind (slicePart_none (wpAny_bind (wpAny_pure ?_)))))
  show wpAny _ _ (pure ((n : Int) - 1, (-1 : Int), Builtin.Slice.slicePlaces ((n : Int) - 1) (-1) (-1))) _ _ s
  have e : Builtin.Slice.slicePlaces ((n : Int) - 1) (-1) (-1) = n := by
    unfold Builtin.Slice.slicePlaces
    rw [if_neg (by decide)]
    by_cases h : (n : Int) - 1 > -1
    · rw [if_pos h, show (-(-1) : Int) = 1 by decide, Int.ediv_one]
      omega
    · rw [if_neg h]
      omega
  rw [e]
  exact wpAny_pure h
theorem filterMap_same {α β : Type} {f g : α → Option β} : ∀ {l : List α}, (∀ x ∈ l, f x = g x) → l.filterMap f = l.filterMap g
  | [], _ => rfl
  | x :: l, h => by
    rw [List.filterMap_cons, List.filterMap_cons, h x List.mem_cons_self, filterMap_same fun y hy => h y (List.mem_cons_of_mem _ hy)]
theorem pick_rev (xs : Array Value) : ((List.range xs.size).filterMap fun (m : Nat) => xs[(((xs.size : Int) - 1) + (m : Int) * (-1)).toNat]?).toArray = xs.toList.reverse.toArray := by
  have e := PySem.W.krv_pick xs
  unfold slicePick at e
  rw [PySem.W.krv_bounds] at e
  rw [← e]
  show _ = ((sliceRange ((xs.size : Int) - 1) (-1) (-1)).filterMap (xs[·]?)).toArray
  rw [PySem.W.krv_sliceRange, List.filterMap_map]
  congr 1
  apply filterMap_same
  intro m hm
  have := List.mem_range.mp hm
  show xs[_]? = xs[xs.size - 1 - m]?
  congr 1
  omega
theorem getItem_tup_rev {t sl : Addr} {items : Array Value} {vs : Value} {Q : Value → Shared → Prop} (ht : IsTup s.heap t items) (hs : s.heap.IsSliceOf sl .none .none vs) (ps : IsPart vs (some (-1)))
    (h : Q (.ref s.heap.objs.size) { s with heap := s.heap.push { cls := .type "tuple", data := .seq items.toList.reverse.toArray } })
    (hsz : items.size ≤ sizeLine) : wpAny (model prog w) A (getItem (.ref t) (.ref sl)) Q E s := by
  have htake : sizeOk (.seq items.toList.reverse.toArray) := by
    show items.toList.reverse.toArray.size ≤ sizeLine
    rw [List.size_toArray, List.length_reverse, Array.length_toList]
    omega
  obtain ⟨os, hos, hcs, hds⟩ := id hs
  have hTs : s.TypeIs (.ref sl) "slice" := ⟨os, hos, hcs⟩
  unfold getItem
  try with_reducible refine wpAny_holding ?_
  first | refine wpAny_bind (wpAny_pure ?_) | skip
  refine wpAny_bind (wpAny_sequenceKey ht.typeIs (by decide) ?_)
  refine wpAny_bind (wpAny_callSpecial?_slot (name := Str.ofString "__getitem__") ht.typeIs PyProof.Rows.slot_tuple_getitem
    (wpAny_call_entry PyProof.Rows.slot_tuple_getitem ht.typeIs entry_tuple_getitem ?_ (args_tuple_getitem _ _)))
  show wpAny _ _ (Builtin.Tuple.tupleItemsOf (.ref t) >>= _) _ _ s
  refine wpAny_bind (tupleItemsOf_ ht ?_)
  refine wpAny_bind (wpAny_typeOf hTs ?_)
  rw [if_pos (by decide)]
  refine wpAny_bind (applied_rev hs ps ?_)
  have hno : ¬ ((((items.size : Int) - 1) == 0 && (-1 : Int) == 1 && items.size == items.size) = true) := by simp
  show wpAny _ _ (if (((items.size : Int) - 1) == 0 && (-1 : Int) == 1 && items.size == items.size) = true then _ else _) _ _ s
  rw [if_neg hno, pick_rev]
  first
    | exact wpAny_bind (m := Builtin.Tuple.tupleExact _) (wpAny_newObj_type (wpAny_pure ⟨_, rfl, wpAny_pure h⟩) htake)
    | exact wpAny_bind (m := Builtin.Tuple.tupleExact _) (wpAny_newObj_type (wpAny_bind (wpAny_pure (wpAny_pure ⟨_, rfl, wpAny_pure h⟩))) htake)
    | exact wpAny_bind (wpAny_bind (m := Builtin.Tuple.tupleExact _) (wpAny_newObj_type (wpAny_pure (wpAny_pure ⟨_, rfl, wpAny_pure h⟩)) htake))
    | exact wpAny_bind (wpAny_bind (m := Builtin.Tuple.tupleExact _) (wpAny_newObj_type (wpAny_pure ⟨_, rfl, wpAny_pure h⟩) htake))
end
section
variable {X : Cx}
/-- t[::-1], t a tuple -/
def tRevT (K : PySem.W.Frag) (te : TE) : TE := fun σ H Q => te σ H fun x H1 => ∃ a xs, x = .ref a ∧ SqT K H1 a xs ∧ ∀ p, H1 p = none → Q (.ref p) (upd H1 p (.tup xs.reverse))
theorem pe_revT {e : Expr} {te : TE} {k : Nat} {p1 p2 p3 pos : Pos} (he : PE X e te) : PE X (.Subscript e (.Slice none none (some (.UnaryOp .USub (.Constant (.int 1) k p1) p2)) p3) pos) (tRevT X.K te) := by
  refine ⟨fun pins s σ H Q I h => ?_⟩
  refine Subscript_ (thn (he.run pins s σ H _ I h) fun v s1 ⟨x, H1, I1, r1, q1⟩ => ?_)
  obtain ⟨a, xs, ex, hx, q⟩ := q1
  subst ex
  cases r1
  have hst : PO X (some (.UnaryOp .USub (.Constant (.int 1) k p1) p2)) (tPart (tUn (rU fun i => .int (-i)) (tC (.int 1)))) := po_some (pe_un un_neg pe_int)
  refine wpAny_Slice (thn (po_none.run pins s1 σ H1 (fun o H2 => o = none ∧ H2 = H1) I1 ⟨rfl, rfl⟩) fun vl s2 ⟨l, H2, I2, pl, el, e2⟩ => ?_)
  subst el e2
  refine thn (po_none.run pins s2 σ H2 (fun o H3 => o = none ∧ H3 = H2) I2 ⟨rfl, rfl⟩) fun vu s3 ⟨u, H3, I3, pu, eu, e3⟩ => ?_
  subst eu e3
  refine thn (hst.run pins s3 σ H3 (fun o H4 => o = some (-1) ∧ H4 = H3) I3 ⟨1, rfl, -1, rfl, rfl, rfl⟩) fun vs s4 ⟨o, H4, I4, ps, eo, e4⟩ => ?_
  subst eo e4
  cases pl
  cases pu
  have I5 : L2.Inv X pins σ H4 { s4 with heap := s4.heap.push { cls := .type "slice", data := .fields #[.none, .none, vs] } } := I4.kept (t' := s4.toks) fun b ob q => Heap.get?_push_of_some _ q
  obtain ⟨its, r, ht, hz⟩ := I5.tuple hx
  have hlen := r.length
  show wpAny (model X.prog X.w) X.A (subscriptTail e (.Slice none none (some (.UnaryOp .USub (.Constant (.int 1) k p1) p2)) p3) (.ref a) (.ref s4.heap.objs.size)) (EP X pins σ Q) X.xe _
  refine tail_any (ops := [.ref a, .ref s4.heap.objs.size]) ht.typeIs (PyProof.Rows.slot_tuple_getitem.lookup) ?_ (by with_unfolding_all rfl)
  refine getItem_tup_rev ht (Heap.IsSliceOf.new _ .none .none vs) ps ?_ (by rw [List.size_toArray]; omega)
  refine ⟨.ref _, _, I5.laid (t' := s4.toks) (o := .tup xs.reverse) (fun b ob q => Heap.get?_push_of_some _ q) (Nat.le_refl _) ?_, rfl, q _ (I5.hok.fresh (Nat.le_refl _))⟩
  exact ⟨by rw [List.length_reverse]; exact hz, _, r.reverse, IsTup.new _ _⟩
end
end Pk
end
/-! The law's own look: the same as the mirror. -/
namespace Pk
open PySem L2
def letters : Str := "abcdefghijklmnopqrstuvwxyz"
theorem lettersL : letters.cps.toList = List.range' 97 26 := by decide +kernel
theorem in_letters (c : Nat) : decide (c ∈ letters.cps.toList) = smallC c := by
  rw [lettersL]
  unfold smallC
  by_cases h1 : 97 ≤ c <;> by_cases h2 : c ≤ 122 <;> simp [List.mem_range'_1, h1, h2] <;> omega
def spLName : Sp := fun vs H Q _ => ∃ (x : V) (d : PyData), vs = [x] ∧ Tr H x d ∧ okS d = true ∧ ∀ H', Same H H' → Q (.bl (nameD d)) H'
def spLDial : Sp := fun vs H Q _ => ∃ (x : V) (d : PyData), vs = [x] ∧ Tr H x d ∧ okS d = true ∧ ∀ H', Same H H' → Q (.bl (dialD d)) H'
def spLSay : Sp := fun vs H Q _ => ∃ (a : Addr) (ns : List Str) (x : V) (d : PyData), vs = [.ref a, x] ∧ H a = some (.lst (ns.map V.str)) ∧ Tr H x d ∧ ∀ H', Same H H' → Q (.bl (sayingD ns d)) H'
def spLRule : Sp := fun vs H Q _ => ∃ (a : Addr) (ns : List Str) (x : V) (d : PyData), vs = [.ref a, x] ∧ H a = some (.lst (ns.map V.str)) ∧ Tr H x d ∧ ∀ H', Same H H' → Q (.bl (ruleD ns d)) H'
theorem e18 : (10 : Int) ^ (18 : Int).toNat = farS := by decide +kernel
theorem e20 : (10 : Int) ^ (20 : Int).toNat = greatS := by decide +kernel
theorem e6 : (10 : Int) ^ (6 : Int).toNat = 1000000 := by decide +kernel
section
variable {P : Program} {w : World} {K : PySem.W.Frag} {mg : Str → Option Value} {base : Heap}
end
end Pk
namespace Pk
open PySem L2
abbrev sPen : Stmt := topH 46
abbrev sDraw : Stmt := topH 47
abbrev sPick : Stmt := topH 48
abbrev sNames : Stmt := topH 49
abbrev sDials : Stmt := topH 50
abbrev sLNums : Stmt := topH 51
abbrev sSay : Stmt := topH 52
abbrev sLSaid : Stmt := topH 53
abbrev sLRule : Stmt := topH 54
abbrev sHouseL : Stmt := topH 55
abbrev sLaw : Stmt := topH 69
theorem small {n : Nat} (h : n ≤ 1000) : n ≤ sizeLine := Nat.le_of_lt (small1000 h)
/-- all but p stays -/
def Sb (p : Addr) (H H' : Hp) : Prop := Same (del H p) (del H' p)
theorem Sb.of {p : Addr} {H H' : Hp} (h : ∀ b o, b ≠ p → H b = some o → H' b = some o) : Sb p H H' := fun b o e => by
  by_cases hb : b = p
  · subst hb
    rw [del_same] at e
    cases e
  · rw [del_ne hb] at e ⊢
    exact h b o hb e
theorem Sb.to {p : Addr} {H H' : Hp} (s : Sb p H H') {b : Addr} {o : HO} (hb : b ≠ p) (e : H b = some o) : H' b = some o := by
  have z := s b o (by rw [del_ne hb]; exact e)
  rw [del_ne hb] at z
  exact z
theorem Sb.same {p : Addr} {H H' : Hp} (s : Same H H') : Sb p H H' := .of fun b o _ e => s b o e
theorem Sb.trans {p : Addr} {H H1 H2 : Hp} (a : Sb p H H1) (b : Sb p H1 H2) : Sb p H H2 := Same.trans a b
theorem Sb.refl (p : Addr) (H : Hp) : Sb p H H := Same.refl _
theorem Sb.upd {p : Addr} {H : Hp} (o : HO) : Sb p H (upd H p o) := .of fun b u hb e => by rw [upd_ne hb]; exact e
/-- what stands apart from p stands -/
theorem delSame {p : Addr} {H : Hp} : Same (del H p) H := fun b o e => by
  by_cases hb : b = p
  · subst hb
    rw [del_same] at e
    cases e
  · rw [del_ne hb] at e
    exact e
theorem delNew {H : Hp} {p q : Addr} (h : p ≠ q) (hq : H q = none) (o : HO) : del (upd H q o) p q = some o := by
  rw [del_ne h.symm, upd_same]

/-- the pen: its cells at c, the turn, what is left of a great cell -/
abbrev penL (c : Addr) (t r : Int) : List V := [.ref c, .int t, .int r]
structure PenAt (H : Hp) (p c : Addr) (ns : List Int) (t r : Int) : Prop where
  at_ : H p = some (.lst (penL c t r))
  cells : H c = some (.lst (ns.map V.int))
  ne : c ≠ p
  len : ns.length ≤ 63
  t0 : 0 ≤ t
  r0 : 0 ≤ r
theorem PenAt.upd {H : Hp} {p c : Addr} {ns : List Int} {t r t' r' : Int} (P : PenAt H p c ns t r) (h1 : 0 ≤ t') (h2 : 0 ≤ r') : PenAt (upd H p (.lst (penL c t' r'))) p c ns t' r' :=
  ⟨upd_same, by rw [upd_ne P.ne]; exact P.cells, P.ne, P.len, h1, h2⟩
theorem PenAt.same {H H' : Hp} {p c : Addr} {ns : List Int} {t r : Int} (P : PenAt H p c ns t r) (s : Same H H') : PenAt H' p c ns t r := ⟨s _ _ P.at_, s _ _ P.cells, P.ne, P.len, P.t0, P.r0⟩
/-- a cell -/
theorem atCell {ns : List Int} {k : Int} (h0 : 0 ≤ k) (h : k < (ns.length : Int)) : ∃ v : Int, atI (ns.map V.int) k = some (.int v) := by
  have hk : k.toNat < ns.length := by omega
  have ek : k = ((k.toNat : Nat) : Int) := by omega
  have q : atI (ns.map V.int) ((k.toNat : Nat) : Int) = some (.int ns[k.toNat]) := atI_nat (by rw [List.getElem?_map, List.getElem?_eq_getElem hk] <;> rfl)
  rw [← ek] at q
  exact ⟨_, q⟩

theorem modB {a q : Int} (h : 0 < q) : 0 ≤ a % q ∧ a % q < q := ⟨Int.emod_nonneg a (by omega), Int.emod_lt_of_pos a h⟩
theorem mulL {i j : Int} (h1 : -18446744073709551616 < i) (h2 : i < 18446744073709551616) : CMul i j := .inl ⟨h1, h2⟩
theorem mulR {i j : Int} (h1 : -18446744073709551616 < j) (h2 : j < 18446744073709551616) : CMul i j := .inr ⟨h1, h2⟩
/-! ### promises -/
/-- _law_draw: a number below many; the pen goes on -/
theorem log_m {m : Int} (h1 : 1 ≤ m) (h2 : m ≤ 2000000000000000000) : m.natAbs.log2 < 9000 := by
  have h3 : m.natAbs ≠ 0 := by omega
  have h4 : m.natAbs.log2 < 64 := (Nat.log2_lt h3).mpr (by have : m.natAbs ≤ 2000000000000000000 := by omega
                                                           omega)
  omega
def spDraw : Sp := fun vs H Q _ => ∃ (p c : Addr) (ns : List Int) (t r m : Int), vs = [.ref p, .int m] ∧ PenAt H p c ns t r ∧ t ≤ 1000000000 ∧ 1 ≤ m ∧ m ≤ 2000000000000000000 ∧
  ∀ (v t' r' : Int) (H' : Hp), 0 ≤ v → v < m → t' ≤ t + 1 → PenAt H' p c ns t' r' → Sb p H H' → Q (.int v) H'
structure Blt (mg : Str → Option Value) : Prop where
  len : mg "len" = none
  abs : mg "abs" = none
  list : mg "list" = none
  tuple : mg "tuple" = none
  dict : mg "dict" = none
  isinstance : mg "isinstance" = none
  range : mg "range" = none
  repr : mg "repr" = none
  sorted : mg "sorted" = none
  min : mg "min" = none
  max : mg "max" = none
  int : mg "int" = none
  str : mg "str" = none
section
variable {P : Program} {w : World} {K : PySem.W.Frag} {mg : Str → Option Value} {base : Heap}
abbrev nDraw : List Str := ["_law_pen_here", "_law_many", "_law_found", "_law_at_here", "_law_cell", "_law_number"]
theorem scDraw : FnScope nDraw ["_law_pen_here", "_law_many"] (defScope sDraw) := ⟨rfl, rfl, rfl, by decide +kernel, rfl, by decide +kernel, by decide +kernel⟩
set_option maxHeartbeats 4000000 in
theorem ok_draw {f : Addr} {fd : FuncData} (F : Fun K "_law_draw" "_law_draw" sDraw f fd) (B : Blt mg) : FnOk P w K mg base CX0 1 f fd ["_law_pen_here", "_law_many"] spDraw := by
  refine F.ok scDraw (fun vs H Q E h => ?_) (fun cdv A outer s H vs Q E hr h => ?_)
  · obtain ⟨p, c, ns, t, r, m, rfl, _⟩ := h
    rfl
  obtain ⟨p, c, ns, t, r, m, rfl, pen, ht, hm1, hm2, k⟩ := h
  refine ⟨_, pss_cons (ps_if (pt_cmpR op_gt (pe_ix ix_list (pv 0) pe_int (fun _ _ => rfl)) pe_int (nomark _))
      (pss_cons (ps_set (i := 2) scDraw.nd rfl (.inl rfl) (pe_op op_mod (pe_ix ix_list (pv 0) pe_int (fun _ _ => rfl)) (pv 1)))
      (pss_cons (ps_asg (pe_op op_fdivW (pe_ix ix_list (pv 0) pe_int (fun _ _ => rfl)) (pv 1)) (pg_sub (pv 0) pe_int set_list))
      (pss_one (ps_ret (pv 2))))) pss_nil) <|
    pss_cons (ps_set (i := 3) scDraw.nd rfl (.inl rfl) (pe_ix ix_list (pv 0) pe_int (fun _ _ => rfl))) <|
    pss_cons (ps_asg (pe_op op_add (pv 3) pe_int) (pg_sub (pv 0) pe_int set_list)) <|
    pss_cons (ps_set (i := 4) scDraw.nd rfl (.inl rfl) pe_int) <|
    pss_cons (ps_if (pt_cmpR op_gt (pe_callB call_len_seq (by rfl) B.len PySem.boot_len (pa_cons (pe_ix ix_list (pv 0) pe_int (fun _ _ => rfl)) pa_nil)) pe_int (nomark _))
      (pss_one (ps_set (i := 4) scDraw.nd rfl (.inl rfl) (pe_callB call_abs (by rfl) B.abs (by decide +kernel) (pa_cons (pe_ix ix_list (pe_ix ix_list (pv 0) pe_int (fun _ _ => rfl)) (pe_op op_mod (pv 3) (pe_callB call_len_seq (by rfl) B.len PySem.boot_len (pa_cons (pe_ix ix_list (pv 0) pe_int (fun _ _ => rfl)) pa_nil))) (fun _ _ => rfl)) pa_nil)))) pss_nil) <|
    pss_cons (ps_if (PW.pt (pw_and (pt_cmpR op_lt (pv 3) (pe_callB call_len_seq (by rfl) B.len PySem.boot_len (pa_cons (pe_ix ix_list (pv 0) pe_int (fun _ _ => rfl)) pa_nil)) (nomark _))
        (pw_and1 (pt_cmpR op_ge (pv 4) (pe_op op_pow pe_int pe_int) (nomark _)))))
      (pss_cons (ps_asg (pe_op op_fdivW (pe_op op_sub (pv 4) (pe_op op_pow pe_int pe_int)) (pv 1)) (pg_sub (pv 0) pe_int set_list))
      (pss_one (ps_ret (pe_op op_mod (pe_op op_sub (pv 4) (pe_op op_pow pe_int pe_int)) (pv 1))))) pss_nil) <|
    pss_cons (ps_set (i := 5) scDraw.nd rfl (.inl rfl) (pe_op op_mod (pe_op op_mul (pe_op op_add (pe_op op_mod (pv 4) pe_int) pe_int) (pe_op op_add (pe_op op_add (pe_op op_mul (pv 3) (pv 3)) (pe_op op_mul pe_int (pv 3))) pe_int)) pe_int)) <|
    pss_cons (ps_set (i := 5) scDraw.nd rfl (.inl rfl) (pe_op op_mod (pe_op op_mul (pe_op op_mod (pe_op op_add (pe_op op_pow (pv 5) pe_int) (pe_op op_mul pe_int (pv 3))) pe_int) pe_int) pe_int)) <|
    pss_one (ps_ret (pe_op op_mod (pe_op op_fdiv (pv 5) pe_int) (pv 1))), ?_⟩
  -- is something left
  refine ⟨_, rfl, p, _, _, _, rfl, rfl, SqL.of pen.at_, (rfl : atI (penL c t r) 2 = some (.int r)), _, _, rfl, rfl, _, rfl, ?_⟩
  refine ite2 (fun cz => ?_) (fun cz => ?_)
  · refine ⟨_, rfl, p, _, _, _, rfl, rfl, SqL.of pen.at_, (rfl : atI (penL c t r) 2 = some (.int r)), _, rfl, _, _, rfl, rfl, (show (0 : Int) < m by omega), ?_⟩
    refine ⟨_, rfl, p, _, _, _, rfl, rfl, SqL.of pen.at_, (rfl : atI (penL c t r) 2 = some (.int r)), _, rfl, _, _, rfl, rfl, (show CDivW _ m from ⟨by omega, log_m hm1 hm2⟩), _, rfl, p, _, _, 2, rfl, rfl, pen.at_, rfl, ?_⟩
    refine ⟨_, rfl, ?_⟩
    exact k _ t (r / m) _ (Int.emod_nonneg _ (by omega)) (Int.emod_lt_of_pos _ (by omega)) (by omega) (pen.upd pen.t0 (Int.ediv_nonneg pen.r0 (by omega))) (Sb.upd _)
  -- a turn more
  refine ⟨_, rfl, p, _, _, _, rfl, rfl, SqL.of pen.at_, (rfl : atI (penL c t r) 1 = some (.int t)), ?_⟩
  refine ⟨_, rfl, _, _, rfl, rfl, _, rfl, p, _, _, 1, rfl, rfl, pen.at_, rfl, ?_⟩
  have pen1 : PenAt (upd H p (.lst ((penL c t r).set 1 (.int (t + 1))))) p c ns (t + 1) r := pen.upd (t' := t + 1) (r' := r) (by have := pen.t0; omega) pen.r0
  have s1 : Sb p H (upd H p (.lst ((penL c t r).set 1 (.int (t + 1))))) := Sb.upd _
  generalize upd H p (.lst ((penL c t r).set 1 (.int (t + 1)))) = H1 at pen1 s1 ⊢
  have hl : (ns.map V.int).length = ns.length := List.length_map _
  have ht0 := pen.t0
  refine ⟨_, rfl, p, _, _, _, rfl, rfl, SqL.of pen1.at_, (rfl : atI (penL c (t + 1) r) 0 = some (.ref c)), c, _, rfl, .inl (SqL.of pen1.cells), _, _, rfl, rfl, _, rfl, ?_⟩
  refine ite2 (fun cy => ?w1) (fun cy => ?w2)
  case' w1 =>
    have hne : 0 < ns.length := by
      have q := of_decide_eq_true cy
      rw [hl] at q
      omega
    have hb0 : 0 ≤ t % (ns.length : Int) := Int.emod_nonneg _ (by omega)
    have hb1 : t % (ns.length : Int) < (ns.length : Int) := Int.emod_lt_of_pos _ (by omega)
    obtain ⟨z, hz⟩ := atCell hb0 hb1
    refine ⟨_, rfl, p, _, _, _, rfl, rfl, SqL.of pen1.at_, (rfl : atI (penL c (t + 1) r) 0 = some (.ref c)), _, rfl, _, rfl, p, _, _, _, rfl, rfl, SqL.of pen1.at_, (rfl : atI (penL c (t + 1) r) 0 = some (.ref c)), c, _, rfl, .inl (SqL.of pen1.cells), _, _, rfl, rfl, (by show (0 : Int) < (((ns.map V.int).length : Nat) : Int); rw [hl]; omega), ?_⟩
    refine ⟨c, _, _, _, rfl, rfl, SqL.of pen1.cells, (by rw [hl]; exact hz), z, rfl, ?_⟩
    generalize (if z < 0 then -z else z) = cl
  case' w2 =>
    generalize (29 : Int) = cl
  all_goals
    -- a great cell
    refine ⟨_, rfl, _, rfl, p, _, _, _, rfl, rfl, SqL.of pen1.at_, (rfl : atI (penL c (t + 1) r) 0 = some (.ref c)), c, _, rfl, .inl (SqL.of pen1.cells), _, _, rfl, rfl, _, rfl, ?_⟩
    refine ite2 (fun cx => ?_) (fun cx => ?_)
    · refine ⟨_, rfl, _, _, rfl, rfl, ⟨by decide, by decide, by decide⟩, _, _, rfl, rfl, _, rfl, ?_⟩
      refine ite2 (fun cw => ?_) (fun cw => ?_)
      · have cw' := of_decide_eq_true cw
        refine ⟨_, rfl, _, _, rfl, rfl, ⟨by decide, by decide, by decide⟩, _, _, rfl, rfl, _, rfl, _, _, rfl, rfl, (show CDivW _ m from ⟨by omega, log_m hm1 hm2⟩), _, rfl, p, _, _, 2, rfl, rfl, pen1.at_, rfl, ?_⟩
        refine ⟨_, rfl, _, _, rfl, rfl, ⟨by decide, by decide, by decide⟩, _, _, rfl, rfl, _, rfl, _, _, rfl, rfl, (show (0 : Int) < m by omega), ?_⟩
        exact k _ (t + 1) _ _ (Int.emod_nonneg _ (by omega)) (Int.emod_lt_of_pos _ (by omega)) (by omega) (pen1.upd (by omega) (Int.ediv_nonneg (by omega) (by omega))) (s1.trans (Sb.upd _))
      · obtain ⟨z0, z1⟩ := modB (a := cl) (q := 2147483629) (by decide)
        refine ⟨_, rfl, _, _, rfl, rfl, (by show (0 : Int) < 2147483629; decide), _, _, rfl, rfl, _, rfl, _, rfl, _, _, rfl, rfl, mulL (by omega) (by omega), _, rfl, _, _, rfl, rfl, mulL (by decide) (by decide), _, _, rfl, rfl, _, _, rfl, rfl, _, _, rfl, rfl, mulL (by omega) (by omega), _, _, rfl, rfl, (by show (0 : Int) < 2147483647; decide), ?_⟩
        have x3 : CPow ((cl % 2147483629 + 31) * (t * t + 5 * t + 11) % 2147483647) 3 := by
          obtain ⟨x0, x2⟩ := modB (a := (cl % 2147483629 + 31) * (t * t + 5 * t + 11)) (q := 2147483647) (by decide)
          generalize (cl % 2147483629 + 31) * (t * t + 5 * t + 11) % 2147483647 = x1 at x0 x2 ⊢
          exact ⟨by decide, by decide, by omega⟩
        refine ⟨_, rfl, _, _, rfl, rfl, x3, _, rfl, _, _, rfl, rfl, mulL (by decide) (by decide), _, _, rfl, rfl, _, _, rfl, rfl, (by show (0 : Int) < 2147483587; decide), _, _, rfl, rfl, mulR (by decide) (by decide), _, _, rfl, rfl, (by show (0 : Int) < 2147483399; decide), ?_⟩
        refine ⟨_, rfl, _, _, rfl, rfl, ⟨by decide, by decide⟩, _, rfl, _, _, rfl, rfl, (show (0 : Int) < m by omega), ?_⟩
        exact k _ (t + 1) r _ (Int.emod_nonneg _ (by omega)) (Int.emod_lt_of_pos _ (by omega)) (by omega) pen1 s1
    · obtain ⟨z0, z1⟩ := modB (a := cl) (q := 2147483629) (by decide)
      refine ⟨_, rfl, _, _, rfl, rfl, (by show (0 : Int) < 2147483629; decide), _, _, rfl, rfl, _, rfl, _, rfl, _, _, rfl, rfl, mulL (by omega) (by omega), _, rfl, _, _, rfl, rfl, mulL (by decide) (by decide), _, _, rfl, rfl, _, _, rfl, rfl, _, _, rfl, rfl, mulL (by omega) (by omega), _, _, rfl, rfl, (by show (0 : Int) < 2147483647; decide), ?_⟩
      have x3 : CPow ((cl % 2147483629 + 31) * (t * t + 5 * t + 11) % 2147483647) 3 := by
        obtain ⟨x0, x2⟩ := modB (a := (cl % 2147483629 + 31) * (t * t + 5 * t + 11)) (q := 2147483647) (by decide)
        generalize (cl % 2147483629 + 31) * (t * t + 5 * t + 11) % 2147483647 = x1 at x0 x2 ⊢
        exact ⟨by decide, by decide, by omega⟩
      refine ⟨_, rfl, _, _, rfl, rfl, x3, _, rfl, _, _, rfl, rfl, mulL (by decide) (by decide), _, _, rfl, rfl, _, _, rfl, rfl, (by show (0 : Int) < 2147483587; decide), _, _, rfl, rfl, mulR (by decide) (by decide), _, _, rfl, rfl, (by show (0 : Int) < 2147483399; decide), ?_⟩
      refine ⟨_, rfl, _, _, rfl, rfl, ⟨by decide, by decide⟩, _, rfl, _, _, rfl, rfl, (show (0 : Int) < m by omega), ?_⟩
      exact k _ (t + 1) r _ (Int.emod_nonneg _ (by omega)) (Int.emod_lt_of_pos _ (by omega)) (by omega) pen1 s1
end
end Pk
namespace Pk
open PySem L2
/-! ### the pen's state, and what stands apart from some addresses -/
def PenC (H : Hp) (p c : Addr) (n : Int) : Prop := ∃ ns t r, PenAt H p c ns t r ∧ t ≤ n
theorem PenC.same {H H' : Hp} {p c : Addr} {n : Int} (P : PenC H p c n) (s : Same H H') : PenC H' p c n := let ⟨ns, t, r, h, e⟩ := P; ⟨ns, t, r, h.same s, e⟩
theorem PenC.mono {H : Hp} {p c : Addr} {n m : Int} (P : PenC H p c n) (h : n ≤ m) : PenC H p c m := let ⟨ns, t, r, h1, e⟩ := P; ⟨ns, t, r, h1, by omega⟩
theorem PenC.upd {H : Hp} {p c D : Addr} {n : Int} (P : PenC H p c n) (hp : D ≠ p) (hc : D ≠ c) (o : HO) : PenC (L2.upd H D o) p c n := by
  obtain ⟨ns, t, r, h, e⟩ := P
  exact ⟨ns, t, r, ⟨by rw [upd_ne hp.symm]; exact h.at_, by rw [upd_ne hc.symm]; exact h.cells, h.ne, h.len, h.t0, h.r0⟩, e⟩
theorem PenC.atp {H : Hp} {p c : Addr} {n : Int} (P : PenC H p c n) : ∃ kv, H p = some (.lst kv) := let ⟨_, _, _, h, _⟩ := P; ⟨_, h.at_⟩
theorem PenC.atc {H : Hp} {p c : Addr} {n : Int} (P : PenC H p c n) : ∃ xs, H c = some (.lst xs) := let ⟨_, _, _, h, _⟩ := P; ⟨_, h.cells⟩
theorem PenC.newp {H : Hp} {p c D : Addr} {n : Int} (P : PenC H p c n) (h : H D = none) : D ≠ p := fun z => by
  obtain ⟨kv, e⟩ := P.atp
  rw [z, e] at h
  cases h
theorem PenC.newc {H : Hp} {p c D : Addr} {n : Int} (P : PenC H p c n) (h : H D = none) : D ≠ c := fun z => by
  obtain ⟨kv, e⟩ := P.atc
  rw [z, e] at h
  cases h
theorem PenC.tupp {H : Hp} {p c D : Addr} {n : Int} {xs : List V} (P : PenC H p c n) (h : H D = some (.tup xs)) : D ≠ p := fun z => by
  obtain ⟨kv, e⟩ := P.atp
  rw [z, e] at h
  cases h
/-- but p, what stood stands -/
theorem Sb.new {p : Addr} {H H' : Hp} {D : Addr} (s : Sb p H H') (hD : H D = none) (hp : D ≠ p) (o : HO) : Sb p H (L2.upd H' D o) := .of fun b u hb e => by
  rw [upd_ne (ne_of_none e hD)]
  exact s.to hb e
theorem Sb.free {p l : Addr} {H H' : Hp} (s : Sb p H H') (hp : l ≠ p) (h : H' l = none) : H l = none := by
  cases e : H l with
  | none => rfl
  | some o => rw [s.to hp e] at h; cases h
theorem ints10 : (10 : Int) ^ (18 : Int).toNat = 1000000000000000000 := by decide +kernel
/-- _law_draw -/
def spDrawC : Sp := fun vs H Q _ => ∃ (p c : Addr) (n m : Int), vs = [.ref p, .int m] ∧ PenC H p c n ∧ n ≤ 1000000000 ∧ 1 ≤ m ∧ m ≤ 2000000000000000000 ∧ ∀ (v : Int) (H' : Hp), 0 ≤ v → v < m → PenC H' p c (n + 1) → Sb p H H' → Q (.int v) H'
theorem draw_imp : ∀ vs H Q E, spDrawC vs H Q E → spDraw vs H Q E := by
  rintro vs H Q E ⟨p, c, n, m, rfl, ⟨ns, t, r, h, e⟩, hn, m1, m2, k⟩
  exact ⟨p, c, ns, t, r, m, rfl, h, by omega, m1, m2, fun v t' r' H' v0 v1 ht' h' sb => k v H' v0 v1 ⟨ns, t', r', h', by omega⟩ sb⟩
/-- _law_pick: of a list, a tuple, or of a text's signs -/
def spPickL : Sp := fun vs H Q _ => ∃ (p c l : Addr) (n : Int) (xs : List V), vs = [.ref p, .ref l] ∧ PenC H p c n ∧ n ≤ 1000000000 ∧ l ≠ p ∧ (H l = some (.lst xs) ∨ H l = some (.tup xs)) ∧ 1 ≤ xs.length ∧ xs.length ≤ 1000000 ∧
  ∀ (x : V) (H' : Hp), x ∈ xs → PenC H' p c (n + 1) → Sb p H H' → Q x H'
def spPickS : Sp := fun vs H Q _ => ∃ (p c : Addr) (n : Int) (z : Str), vs = [.ref p, .str z] ∧ PenC H p c n ∧ n ≤ 1000000000 ∧ 1 ≤ z.length ∧ z.length ≤ 1000000 ∧
  ∀ (x : Nat) (H' : Hp), x ∈ z.cps.toList → PenC H' p c (n + 1) → Sb p H H' → Q (.str ⟨#[x]⟩) H'
def spPick : Sp := fun vs H Q E => spPickL vs H Q E ∨ spPickS vs H Q E
theorem seqIx {i : Int} {n : Nat} (h0 : 0 ≤ i) (h1 : i < n) : seqIndex? i n = some i.toNat := by
  have e : ¬ i < 0 := by omega
  unfold seqIndex?
  simp only [e, if_false]
  rw [if_pos (by simp; omega)]
theorem erase_map {α β : Type} (f : α → β) : ∀ (l : List α) (i : Nat), (l.map f).eraseIdx i = (l.eraseIdx i).map f
  | [], _ => by simp
  | _ :: _, 0 => by simp
  | _ :: l, i + 1 => by simp [erase_map f l i]
theorem perm_erase {α : Type} : ∀ {l : List α} {i : Nat} (h : i < l.length), (l[i] :: l.eraseIdx i).Perm l
  | [], _, h => absurd h (by simp)
  | x :: l, 0, _ => by simp
  | x :: l, i + 1, h => by
    have h' : i < l.length := by simpa using h
    have q := perm_erase h'
    rw [List.eraseIdx_cons_succ, List.getElem_cons_succ]
    exact (List.Perm.swap _ _ _).trans (List.Perm.cons x q)
section
variable {P : Program} {w : World} {K : PySem.W.Frag} {mg : Str → Option Value} {base : Heap}
theorem scPick : FnScope ["_law_pen_here", "_law_lot"] ["_law_pen_here", "_law_lot"] (defScope sPick) := ⟨rfl, rfl, rfl, by decide +kernel, rfl, by decide +kernel, by decide +kernel⟩
theorem ok_pick {f g : Addr} {fd gd : FuncData} (F : Fun K "_law_pick" "_law_pick" sPick f fd) (G : FnOk P w K mg base CX0 1 g gd ["_law_pen_here", "_law_many"] spDrawC) (bG : Binds K gd ["_law_pen_here", "_law_many"] []) (kG : PySem.W.keepIn K (.ref g) = true) (mG : mg "_law_draw" = some (.ref g)) (B : Blt mg) :
    FnOk P w K mg base CX0 2 f fd ["_law_pen_here", "_law_lot"] spPick := by
  refine F.ok scPick (fun vs H Q E h => ?_) (fun cdv A outer s H vs Q E hr h => ?_)
  · rcases h with ⟨p, c, l, n, xs, rfl, _⟩ | ⟨p, c, n, z, rfl, _⟩ <;> rfl
  refine ⟨_, pss_one (ps_ret (pe_ix ix_seq (pv 1) (pe_call G hr rfl mG kG bG .nil pass0 (pa_cons (pv 0) (pa_cons (pe_callB call_len (by rfl) B.len PySem.boot_len (pa_cons (pv 1) pa_nil)) pa_nil))) (fun _ _ => rfl))), ?_⟩
  rcases h with ⟨p, c, l, n, xs, rfl, pen, hn, lp, hl, l1, l2, k⟩ | ⟨p, c, n, z, rfl, pen, hn, l1, l2, k⟩
  · have ln : LenV K (.ref l) H xs.length := by
      rcases hl with hl | hl
      · exact .inl ⟨xs, SqL.of hl, rfl⟩
      · exact .inr ⟨xs, SqT.of hl, rfl⟩
    refine ⟨_, rfl, _, rfl, _, rfl, _, xs.length, rfl, ln, p, c, n, _, rfl, pen, hn, by omega, by omega, fun v H' v0 v1 pen' sb => ?_⟩
    have hv : v.toNat < xs.length := by omega
    have ev : v = ((v.toNat : Nat) : Int) := by omega
    have q : atI xs ((v.toNat : Nat) : Int) = some xs[v.toNat] := atI_nat (List.getElem?_eq_getElem hv)
    rw [← ev] at q
    rcases hl with hl | hl
    · exact .inl ⟨l, xs, v, _, rfl, rfl, SqL.of (sb.to lp hl), q, k _ H' (List.getElem_mem hv) pen' sb⟩
    · exact .inr (.inl ⟨l, xs, v, _, rfl, rfl, SqT.of (sb.to lp hl), q, k _ H' (List.getElem_mem hv) pen' sb⟩)
  · refine ⟨_, rfl, _, rfl, _, rfl, _, z.length, rfl, ⟨by have := sizeLine_eq; omega, rfl⟩, p, c, n, _, rfl, pen, hn, by omega, by omega, fun v H' v0 v1 pen' sb => ?_⟩
    have hz : z.cps.toList.length = z.length := Array.length_toList
    have hv : v.toNat < z.cps.toList.length := by omega
    have ev : v = ((v.toNat : Nat) : Int) := by omega
    have q : atI z.cps.toList ((v.toNat : Nat) : Int) = some z.cps.toList[v.toNat] := atI_nat (List.getElem?_eq_getElem hv)
    rw [← ev] at q
    exact .inr (.inr ⟨z, v, _, rfl, rfl, by have := sizeLine_eq; omega, q, k _ H' (List.getElem_mem hv) pen' sb⟩)
end
end Pk
/-! Names drawn: unlike ones. -/
namespace Pk
open PySem
theorem nodup_at {ss : List Str} {pre : List Nat} {c : Nat → Nat} (h : ∀ j z, ss[j]? = some z → ∃ tl, z.cps.toList = pre ++ c j :: tl) (inj : ∀ i j, i < ss.length → j < ss.length → c i = c j → i = j) : ss.Nodup := by
  unfold List.Nodup
  rw [List.pairwise_iff_getElem]
  intro i j hi hj hij e
  obtain ⟨t1, e1⟩ := h i _ (List.getElem?_eq_getElem hi)
  obtain ⟨t2, e2⟩ := h j _ (List.getElem?_eq_getElem hj)
  rw [e, e2] at e1
  have e3 := List.append_cancel_left e1
  have := inj j i hj hi (List.cons.inj e3).1
  omega
theorem nodup_set {ss : List Str} {pre : List Nat} {c : Nat → Nat} {k : Nat} {y : Str} (h : ∀ j z, ss[j]? = some z → ∃ tl, z.cps.toList = pre ++ c j :: tl) (inj : ∀ i j, i < ss.length → j < ss.length → c i = c j → i = j) (hy : y.cps.toList = pre) : (ss.set k y).Nodup := by
  have out : ∀ z ∈ ss, z ≠ y := fun z hz e => by
    obtain ⟨j, hj, ej⟩ := List.getElem_of_mem hz
    obtain ⟨tl, e1⟩ := h j z (by rw [List.getElem?_eq_getElem hj, ej])
    rw [e, hy] at e1
    have := congrArg List.length e1
    simp at this
  have nd := nodup_at h inj
  unfold List.Nodup at nd ⊢
  rw [List.pairwise_iff_getElem] at nd ⊢
  intro i j hi hj hij e
  rw [List.getElem_set, List.getElem_set] at e
  rw [List.length_set] at hi hj
  by_cases c1 : k = i
  · rw [if_pos c1, if_neg (by omega)] at e
    exact out _ (List.getElem_mem hj) e.symm
  · rw [if_neg c1] at e
    by_cases c2 : k = j
    · rw [if_pos c2] at e
      exact out _ (List.getElem_mem hi) e
    · rw [if_neg c2] at e
      exact nd i j hi hj hij e
def byL : List Int := [1, 3, 5, 7, 9, 11, 15, 17, 19, 21, 23, 25]
theorem inj26 {fi b : Int} (hb : b ∈ byL) {i j : Nat} (hi : i < 12) (hj : j < 12) (h : 97 + ((fi + b * (i : Int)) % 26).toNat = 97 + ((fi + b * (j : Int)) % 26).toNat) : i = j := by
  simp only [byL, List.mem_cons, List.not_mem_nil, or_false] at hb
  have p1 := Int.emod_nonneg (fi + b * (i : Int)) (show (26 : Int) ≠ 0 by decide)
  have p2 := Int.emod_nonneg (fi + b * (j : Int)) (show (26 : Int) ≠ 0 by decide)
  have h' : (fi + b * (i : Int)) % 26 = (fi + b * (j : Int)) % 26 := by omega
  rcases hb with rfl | rfl | rfl | rfl | rfl | rfl | rfl | rfl | rfl | rfl | rfl | rfl <;> omega
/-! Texts in their order -/
theorem lt_of_le_ne {a b : Str} (h : ¬ b.cps.toList < a.cps.toList) (hn : a ≠ b) : leS b a = false := by
  unfold leS
  have : a.cps.toList < b.cps.toList := by
    rcases Decidable.em (a.cps.toList < b.cps.toList) with q | q
    · exact q
    · exfalso
      have e := List.le_antisymm (show a.cps.toList ≤ b.cps.toList from h) (show b.cps.toList ≤ a.cps.toList from q)
      apply hn
      cases a
      cases b
      congr 1
      exact Array.ext' e
  simp [this]
end Pk
namespace Pk
open PySem L2
/-- a name by form: few signs, each a letter -/
def nmOk (z : Str) : Prop := z.length ≤ 30 ∧ ∀ c ∈ z.cps.toList, smallC c = true
theorem len_cps (z : Str) : z.cps.toList.length = z.length := Array.length_toList
theorem cps_app (a b : Str) : (a ++ b).cps.toList = a.cps.toList ++ b.cps.toList := by
  show (a.cps ++ b.cps).toList = _
  rw [Array.toList_append]
theorem join_cps {e : Str} (he : e.cps.toList = []) : ∀ ys : List Str, (Str.join e ys).cps.toList = (ys.map fun y => y.cps.toList).flatten
  | [] => rfl
  | [x] => by simp [Str.join]
  | x :: y :: r => by
    show (x ++ e ++ Str.join e (y :: r)).cps.toList = _
    rw [cps_app, cps_app, he, join_cps he (y :: r)]
    simp
theorem join_signs (cs : List Nat) : (Txt.join ("" : Str) (cs.map fun c => (⟨#[c]⟩ : Str))).cps.toList = cs := by
  unfold Txt.join
  rw [StrLaws.glued_eq_join, join_cps rfl, List.map_map]
  induction cs with
  | nil => rfl
  | cons c cs ih => simpa using ih
theorem cutS_cps (z : Str) (lo hi : Option Int) : (cutS z lo hi).cps.toList = (z.cps.toList.drop (HT.sIx z.length 0 lo)).take (HT.sIx z.length z.length hi - HT.sIx z.length 0 lo) := by
  unfold cutS
  simp
theorem cutS_mem {z : Str} {lo hi : Option Int} {c : Nat} (h : c ∈ (cutS z lo hi).cps.toList) : c ∈ z.cps.toList := by
  rw [cutS_cps] at h
  exact List.mem_of_mem_drop (List.mem_of_mem_take h)
theorem cutS_len (z : Str) (lo hi : Option Int) : (cutS z lo hi).length ≤ z.length := by
  rw [← len_cps, cutS_cps, ← len_cps z]
  simp only [List.length_take, List.length_drop]
  omega
theorem app_len (a b : Str) : (a ++ b).length = a.length + b.length := by
  rw [← len_cps, cps_app, List.length_append, len_cps, len_cps]
theorem cut_from {xs : List V} {i : Nat} (h : i ≤ xs.length) : cutV xs (some (i : Int)) none = xs.drop i := by
  unfold cutV
  rw [HT.sIx_none, HT.sIx_nat, Nat.min_eq_left h, List.take_of_length_le (by simp)]
theorem cut_to {xs : List V} {i : Nat} (h : i ≤ xs.length) : cutV xs none (some (i : Int)) = xs.take i := by
  unfold cutV
  rw [HT.sIx_none, HT.sIx_nat, Nat.min_eq_left h, List.drop_zero, Nat.sub_zero]
theorem sum_signs : ∀ cs : List Nat, ((cs.map fun x => (⟨#[x]⟩ : Str)).map (·.length)).sum = cs.length
  | [] => rfl
  | c :: cs => by
    simp only [List.map_cons, List.sum_cons, List.length_cons, sum_signs cs]
    show 1 + cs.length = _
    omega
theorem cutS_to (z : Str) (i : Nat) : (cutS z none (some (i : Int))).cps.toList = z.cps.toList.take (min i z.length) := by
  rw [cutS_cps, HT.sIx_none, HT.sIx_nat, List.drop_zero, Nat.sub_zero]
theorem cutS_from_len (z : Str) (i : Nat) : (cutS z (some (i : Int)) none).length ≤ z.length - i := by
  rw [← len_cps, cutS_cps, HT.sIx_none, HT.sIx_nat]
  simp only [List.length_take, List.length_drop, len_cps]
  omega
theorem letters_ok : ∀ c ∈ letters.cps.toList, smallC c = true := fun c hc => by rw [← in_letters, decide_eq_true hc]
theorem letters_len : letters.length = 26 := by decide +kernel
/-- the dict of names -/
def kvT (ks : List Str) : List (Key × V) := ks.map fun z => (Sum.inr z, V.bl true)
def insN (ks : List Str) (z : Str) : List Str := if z ∈ ks then ks else ks ++ [z]
theorem put_T (ks : List Str) (z : Str) : putK (kvT ks) (Sum.inr z) (.bl true) = kvT (insN ks z) := by
  unfold putK insN kvT
  by_cases c : z ∈ ks
  · rw [if_pos c, if_pos, List.map_map]
    · apply List.map_congr_left
      intro x _
      show (if (Sum.inr x : Key) = Sum.inr z then (Sum.inr x, V.bl true) else (Sum.inr x, V.bl true)) = _
      split <;> rfl
    · rw [List.any_eq_true]
      exact ⟨_, List.mem_map.mpr ⟨z, c, rfl⟩, by simp⟩
  · rw [if_neg c, if_neg, List.map_append]
    · rfl
    · rw [List.any_eq_true]
      rintro ⟨kv, hk, ek⟩
      obtain ⟨x, hx, rfl⟩ := List.mem_map.mp hk
      exact c (by rw [← Sum.inr.inj (of_decide_eq_true ek)]; exact hx)
theorem insN_nd {ks : List Str} {z : Str} (h : ks.Nodup) : (insN ks z).Nodup := by
  unfold insN
  by_cases c : z ∈ ks
  · rw [if_pos c]; exact h
  · rw [if_neg c, List.nodup_append]
    refine ⟨h, by simp, fun a ha b hb e => ?_⟩
    rw [List.mem_singleton.mp hb] at e
    exact c (e ▸ ha)
theorem insN_len (ks : List Str) (z : Str) : (insN ks z).length ≤ ks.length + 1 ∧ 1 ≤ (insN ks z).length := by
  unfold insN
  by_cases c : z ∈ ks
  · rw [if_pos c]
    exact ⟨by omega, List.length_pos_of_mem c⟩
  · rw [if_neg c]
    simp
theorem insN_mem {ks : List Str} {z x : Str} (h : x ∈ insN ks z) : x ∈ ks ∨ x = z := by
  unfold insN at h
  by_cases c : z ∈ ks
  · rw [if_pos c] at h; exact .inl h
  · rw [if_neg c] at h
    rcases List.mem_append.mp h with h | h
    · exact .inl h
    · exact .inr (List.mem_singleton.mp h)
def spNames : Sp := fun vs H Q _ => ∃ (p c : Addr) (n : Int) (m : Nat), vs = [.ref p, .int (m : Nat)] ∧ PenC H p c n ∧ n ≤ 400000000 ∧ 1 ≤ m ∧ m ≤ 12 ∧
  ∀ (l : Addr) (ss : List Str) (H' : Hp), PenC H' p c (n + 30) → Sb p H H' → H l = none → H' l = some (.lst (ss.map V.str)) → 1 ≤ ss.length → ss.length ≤ m → (∀ z ∈ ss, nmOk z) → (∀ z ∈ ss, 1 ≤ z.length ∧ z.length ≤ 8) → ss.Nodup → PyProof.Rows.sortedS ss = true → Q (.ref l) H'
abbrev nNames : List Str := ["_law_pen_here", "_law_many", "_law_found", "_law_letters", "_law_base", "_law_k", "_law_at_here", "_law_by"]
section
variable {P : Program} {w : World} {K : PySem.W.Frag} {mg : Str → Option Value} {base : Heap}
theorem scNames : FnScope nNames ["_law_pen_here", "_law_many"] (defScope sNames) := ⟨rfl, rfl, rfl, by decide +kernel, rfl, by decide +kernel, by decide +kernel⟩
set_option maxHeartbeats 1000000 in
theorem ok_names {f g g2 : Addr} {fd gd gd2 : FuncData} (F : Fun K "_law_names" "_law_names" sNames f fd) (G : FnOk P w K mg base CX0 1 g gd ["_law_pen_here", "_law_many"] spDrawC) (bG : Binds K gd ["_law_pen_here", "_law_many"] []) (kG : PySem.W.keepIn K (.ref g) = true) (mG : mg "_law_draw" = some (.ref g))
    (G2 : FnOk P w K mg base CX0 2 g2 gd2 ["_law_pen_here", "_law_lot"] spPick) (bG2 : Binds K gd2 ["_law_pen_here", "_law_lot"] []) (kG2 : PySem.W.keepIn K (.ref g2) = true) (mG2 : mg "_law_pick" = some (.ref g2)) (B : Blt mg) :
    FnOk P w K mg base CX0 3 f fd ["_law_pen_here", "_law_many"] spNames := by
  refine F.ok scNames (fun vs H Q E h => ?_) (fun cdv A outer s H vs Q E hr h => ?_)
  · obtain ⟨p, c, n, m, rfl, _⟩ := h
    rfl
  obtain ⟨p, c, n, m, rfl, pen, hn, m1, m2, k⟩ := h
  have hu := hu_of hr
  have hr1 : Room 1 _ := hr.mono (by decide)
  refine ⟨_, pss_cons (ps_asg (pe_tup (pa_cons pe_dnewK (pa_cons pe_str pa_nil))) (pg_tup (by rfl) (pgs_cons (pg_name (i := 2) scNames.nd rfl (.inl rfl)) <| pgs_cons (pg_name (i := 3) scNames.nd rfl (.inr rfl)) pgs_nil))) <|
    pss_cons (ps_set (i := 4) scNames.nd rfl (.inl rfl) (pe_join pe_str (pe_lc (own := [("_law_k", 5)]) (g := gName 5) (by rfl) scNames.nd (pi_range1 (by rfl) B.range (pa_cons (pe_op op_add pe_int (pe_call G hr1 rfl mG kG bG .nil pass0 (pa_cons (pv 0) (pa_cons pe_int pa_nil)))) pa_nil)) (blkOk_by (N := nNames) (sc := defScope sNames) (by decide +kernel)) (fun _ _ _ _ _ => pg_name (i := 5) scNames.nd rfl (Or.inl rfl)) (fun _ _ _ _ _ => pts_nil) (fun _ _ _ _ _ => pe_call G2 hr rfl mG2 kG2 bG2 .nil pass0 (pa_cons (pv 0) (pa_cons (pv 3) pa_nil)))))) <|
    pss_cons (ps_par (i := 6) (j := 7) (by rfl) scNames.nd rfl rfl (by decide) rfl rfl (pa_cons (pe_call G hr1 rfl mG kG bG .nil pass0 (pa_cons (pv 0) (pa_cons pe_int pa_nil))) (pa_cons (pe_call G2 hr rfl mG2 kG2 bG2 .nil pass0 (pa_cons (pv 0) (pa_cons (pe_lst (pa_cons pe_int <| pa_cons pe_int <| pa_cons pe_int <| pa_cons pe_int <| pa_cons pe_int <| pa_cons pe_int pa_nil)) pa_nil))) pa_nil)) (by rfl)) <|
    pss_cons (ps_for PassesOwn.never rfl (pi_range1 rfl B.range (pa_cons (pv 1) pa_nil)) (pg_name (i := 5) scNames.nd rfl (.inl rfl))
      (pss_one (ps_dput hu (pv 2) (pe_op op_add_str (pe_slice sl_str (pv 4) po_none (po_some (pe_call G hr1 rfl mG kG bG .nil pass0 (pa_cons (pv 0) (pa_cons (pe_op op_add (pe_callB call_len_str (by rfl) B.len PySem.boot_len (pa_cons (pv 4) pa_nil)) pe_int) pa_nil))))) (pe_ix ix_str (pv 3) (pe_op op_mod (pe_op op_add (pv 6) (pe_op op_mul (pv 7) (pv 5))) pe_int) (fun _ _ => rfl))) pe_bl rfl))) <|
    pss_one (ps_ret (pe_callB (call_sortedD rfl) (by rfl) B.sorted (by decide +kernel) (pa_cons (pv 2) pa_nil))), ?_⟩
  intro D hD
  have sD := sameNew hD (.dK [])
  refine ⟨by show 2 ≤ sizeLine; decide, fun T nT => ?_⟩
  have sT := sameNew nT (.tup [.ref D, .str ("abcdefghijklmnopqrstuvwxyz" : Str)])
  refine ⟨T, _, rfl, SqT.of upd_same, rfl, _, _, rfl, _, _, rfl, rfl, ?_⟩
  have Dp := pen.newp hD
  have Dc := pen.newc hD
  have pen2 := (pen.same sD).same sT
  have sb2 : Sb p H _ := (Sb.same sD).trans (Sb.same sT)
  have hD2 := sT _ _ (upd_same (H := H) (a := D) (o := .dK []))
  generalize L2.upd (L2.upd H D (.dK [])) T (.tup [.ref D, .str ("abcdefghijklmnopqrstuvwxyz" : Str)]) = H2 at pen2 sb2 hD2
  refine ⟨⟨_, rfl⟩, _, rfl, p, c, n, _, rfl, pen2, by omega, by decide, by decide, fun v3 H3 b0 b1 pen3 sb3' => ?_⟩
  have sb3 := sb2.trans sb3'
  have hD3 := sb3'.to Dp hD2
  refine ⟨_, _, rfl, rfl, _, rfl, by omega, by omega, fun L hL => lc_range (lo := 0) (n := (1 + v3).toNat) (fun i H4 => ∃ cs : List Nat, H4 L = some (.lst ((cs.map fun x => (⟨#[x]⟩ : Str)).map V.str)) ∧ cs.length = i ∧ (∀ x ∈ cs, smallC x = true) ∧ PenC H4 p c (n + 1 + i) ∧ Sb p H3 H4)
    ⟨[], upd_same, rfl, fun _ h => absurd h (by simp), (pen3.same (sameNew hL _)).mono (by omega), Sb.same (sameNew hL _)⟩ ?_ ?_⟩
  · rintro i H4 hi ⟨cs, e1, e2, e3, pen4, sb4⟩
    have Lp := pen3.newp hL
    have Lc := pen3.newc hL
    refine ⟨rfl, _, rfl, _, rfl, .inr ⟨p, c, n + 1 + i, letters, rfl, pen4, by omega, by rw [letters_len]; decide, by rw [letters_len]; decide, fun x H5 hx pen5 sb5 => ?_⟩⟩
    refine ⟨_, sb5.to Lp e1, small1000 (by simp only [List.length_map]; omega), cs ++ [x], ?_, by simp [e2], fun y hy => ?_, ?_, ?_⟩
    · rw [upd_same, List.map_append, List.map_append]
      rfl
    · rcases List.mem_append.mp hy with hy | hy
      · exact e3 y hy
      · rw [List.mem_singleton.mp hy]
        exact letters_ok x hx
    · exact (pen5.upd Lp Lc _).mono (by omega)
    · exact (sb4.trans sb5).new hL Lp _
  rintro H4 ⟨cs, e1, e2, e3, pen4, sb4'⟩
  have sb4 := sb3.trans sb4'
  have hD4 := sb4'.to Dp hD3
  have hcl : cs.length ≤ 7 ∧ 1 ≤ cs.length := by omega
  refine ⟨_, L, cs.map fun x => (⟨#[x]⟩ : Str), rfl, rfl, .inl (SqL.of e1), ?_, ?_⟩
  · rw [sum_signs, List.length_map]
    show cs.length + cs.length * 0 ≤ _
    omega
  have hzb := join_signs cs
  generalize Txt.join (Str.ofString "") (cs.map fun x => (⟨#[x]⟩ : Str)) = zb at hzb ⊢
  have hzl : zb.length = cs.length := by rw [← len_cps, hzb]
  have hzc : ∀ x ∈ zb.cps.toList, smallC x = true := by rw [hzb]; exact e3
  have hz9 : zb.length ≤ sizeLine := small (by omega)
  clear e1 hzb
  refine ⟨_, rfl, p, c, _, _, rfl, pen4, by omega, by decide, by decide, fun at_ H5 b2 b3 pen5 sb5 => ?_⟩
  refine ⟨_, rfl, by show 6 ≤ sizeLine; decide, fun e he => ?_⟩
  have sE := sameNew he (.lst [.int 1, .int 3, .int 5, .int 7, .int 9, .int 11])
  refine .inl ⟨p, c, e, _, _, rfl, pen5.same sE, by omega, pen5.newp he, .inl upd_same, by simp, by simp, fun x H8 hx pen8 sb8 => ?_⟩
  have sC := sb4.trans (sb5.trans ((Sb.same sE).trans sb8))
  have hD8 := sb8.to Dp (sE _ _ (sb5.to Dp hD4))
  obtain ⟨by_, rfl, b8, b9⟩ : ∃ b : Int, x = .int b ∧ 1 ≤ b ∧ b ≤ 11 := by
    simp only [List.mem_cons, List.not_mem_nil, or_false] at hx
    rcases hx with rfl | rfl | rfl | rfl | rfl | rfl <;> exact ⟨_, rfl, by decide, by decide⟩
  generalize hN : n + 1 + (((1 + v3).toNat : Nat) : Int) + 1 + 1 = N at pen8
  refine ⟨_, _, rfl, _, rfl, _, rfl, by omega, by omega, ?_⟩
  rw [Int.toNat_natCast]
  refine for_range (n := m) (fun i σ H9 => ∃ (v5 : Option V) (ks : List Str), σ = [some (.ref p), some (.int (m : Nat)), some (.ref D), some (.str letters), some (.str zb), v5, some (.int at_), some (.int by_)] ∧ H9 D = some (.dK (kvT ks)) ∧ ks.length ≤ i ∧ (1 ≤ i → 1 ≤ ks.length) ∧ (∀ z ∈ ks, nmOk z) ∧ (∀ z ∈ ks, 1 ≤ z.length ∧ z.length ≤ 8) ∧ ks.Nodup ∧ PenC H9 p c (N + i) ∧ Sb p H H9)
    ⟨none, [], rfl, hD8, by simp, by omega, fun _ h => absurd h (by simp), fun _ h => absurd h (by simp), List.nodup_nil, pen8.mono (by omega), sC⟩ ?_ ?_
  · rintro i σ H9 hi ⟨v5, ks, rfl, f1, f2, f3, f4, f5, f6, pen9, sb9⟩
    rw [Int.zero_add]
    obtain ⟨ch, hch⟩ : ∃ ch, atI letters.cps.toList ((at_ + by_ * ((i : Nat) : Int)) % 26) = some ch := by
      have q0 := Int.emod_nonneg (at_ + by_ * ((i : Nat) : Int)) (show (26 : Int) ≠ 0 by decide)
      have q1 := Int.emod_lt_of_pos (at_ + by_ * ((i : Nat) : Int)) (show (0 : Int) < 26 by decide)
      generalize (at_ + by_ * ((i : Nat) : Int)) % 26 = ix at q0 q1
      have hv : ix.toNat < letters.cps.toList.length := by rw [len_cps, letters_len]; omega
      have q : atI letters.cps.toList ((ix.toNat : Nat) : Int) = some letters.cps.toList[ix.toNat] := atI_nat (List.getElem?_eq_getElem hv)
      rw [show ((ix.toNat : Nat) : Int) = ix by omega] at q
      exact ⟨_, q⟩
    have hch2 : smallC ch = true := by
      have q : ch ∈ letters.cps.toList := by
        unfold atI at hch
        obtain ⟨j, _, hj⟩ := Option.bind_eq_some_iff.mp hch
        exact List.mem_of_getElem? hj
      exact letters_ok ch q
    refine ⟨_, rfl, _, rfl, _, rfl, _, rfl, zb, rfl, hz9, _, _, rfl, rfl, p, c, _, _, rfl, pen9, by omega, by omega, by omega, fun cu H10 c0 c1 pen10 sb10 => ?_⟩
    refine ⟨cu, rfl, zb, rfl, hz9, _, rfl, _, rfl, _, rfl, _, rfl, _, _, rfl, rfl, mulL (by omega) (by omega), _, _, rfl, rfl, _, _, rfl, rfl, (by show (0 : Int) < 26; decide), letters, _, ch, rfl, rfl, by rw [letters_len]; decide, hch, ?_⟩
    have hc1 := cutS_len zb none (some cu)
    have hs9 := sizeLine_eq
    have h11 : (⟨#[ch]⟩ : Str).length = 1 := rfl
    have hD10 := sb10.to Dp f1
    refine ⟨_, _, rfl, rfl, by rw [h11]; omega, D, _, rfl, .inl ⟨_, .inr _, hD10, rfl, by unfold kvT; rw [List.length_map]; exact small1000 (by omega), rfl⟩, ?_⟩
    rw [put_T]
    generalize hzz : cutS zb none (some cu) ++ ⟨#[ch]⟩ = zz
    have z1 : zz.length ≤ 8 ∧ 1 ≤ zz.length := by rw [← hzz, app_len, h11]; omega
    have z2 : nmOk zz := by
      refine ⟨by omega, fun x hx => ?_⟩
      rw [← hzz, cps_app] at hx
      rcases List.mem_append.mp hx with hx | hx
      · exact hzc x (cutS_mem hx)
      · have : x = ch := by simpa using hx
        rw [this]
        exact hch2
    have il := insN_len ks zz
    refine ⟨_, insN ks zz, rfl, upd_same, by omega, fun _ => il.2, fun z hz => ?_, fun z hz => ?_, insN_nd f6, (pen10.upd Dp Dc _).mono (by omega), (sb9.trans sb10).new hD Dp _⟩
    · rcases insN_mem hz with hz | rfl
      · exact f4 z hz
      · exact z2
    · rcases insN_mem hz with hz | rfl
      · exact f5 z hz
      · exact ⟨z1.2, z1.1⟩
  rintro σ H9 ⟨v5, ks, rfl, f1, f2, f3, f4, f5, f6, pen9, sb9⟩
  refine ⟨_, rfl, D, _, ks, rfl, .inl f1, by unfold kvT; simp, by omega, fun ys l perm srt hl => ?_⟩
  have sl := sameNew hl (.lst (ys.map V.str))
  have le := perm.length_eq
  exact k l ys _ ((pen9.same sl).mono (by omega)) (sb9.trans (Sb.same sl)) (sb9.free (pen9.newp hl) hl) upd_same (by have := f3 m1; omega) (by omega) (fun z hz => f4 z (perm.mem_iff.mp hz)) (fun z hz => f5 z (perm.mem_iff.mp hz)) (perm.nodup_iff.mpr f6) srt
end
end Pk
namespace Pk
open PySem L2
def spDialL : Sp := fun vs H Q _ => ∃ (p c : Addr) (n wd : Int) (nm : Str), vs = [.ref p, .str nm, .int wd] ∧ 0 ≤ wd ∧ wd ≤ 100 ∧ PenC H p c n ∧ n ≤ 300000000 ∧
  ∀ (t : Addr) (lo hi up dn : Int) (way : Str) (H' : Hp), PenC H' p c (n + 40) → Sb p H H' → H t = none → H' t = some (.tup [.str nm, .int lo, .int hi, .str way, .int up, .int dn]) → -farS ≤ lo → lo ≤ hi → hi ≤ farS → way ∈ ways3 → 1 ≤ up → up ≤ 1000000 → 1 ≤ dn → dn ≤ 1000000 → Q (.ref t) H'
def spSayL : Sp := fun vs H Q _ => ∃ (p c a b : Addr) (n : Int) (ss : List Str) (is : List Int), vs = [.ref p, .ref a, .ref b] ∧ PenC H p c n ∧ n ≤ 300000000 ∧ H a = some (.lst (ss.map V.str)) ∧ 1 ≤ ss.length ∧ ss.length ≤ 40 ∧ H b = some (.lst (is.map V.int)) ∧ 1 ≤ is.length ∧ is.length ≤ 40 ∧ (∀ i ∈ is, -farS ≤ i ∧ i ≤ farS) ∧
  ∀ (t : Addr) (z so : Str) (i : Int) (H' : Hp), PenC H' p c (n + 20) → Sb p H H' → H t = none → H' t = some (.tup [.str z, .str so, .int i]) → z ∈ ss → so ∈ sorts2 → -greatS ≤ i → i ≤ greatS → Q (.ref t) H'
def kvOf (e : Str × Int) : Key × V := (Sum.inr e.1, .int e.2)
theorem val_kv {z : Str} : ∀ {es : List (Str × Int)}, z ∈ es.map (·.1) → ∃ i, (z, i) ∈ es ∧ valV (es.map kvOf) (Sum.inr z) = some (.int i)
  | [], h => absurd h (by simp)
  | (y, i) :: es, h => by
    by_cases e : y = z
    · subst e
      refine ⟨i, List.mem_cons_self, ?_⟩
      unfold valV
      rw [List.map_cons, List.find?_cons_of_pos (by simp [kvOf])]
      rfl
    · have h' : z ∈ es.map (·.1) := by
        rcases List.mem_cons.mp h with h | h
        · exact absurd h.symm e
        · exact h
      obtain ⟨j, h1, h2⟩ := val_kv h'
      refine ⟨j, List.mem_cons_of_mem _ h1, ?_⟩
      unfold valV at h2 ⊢
      rw [List.map_cons, List.find?_cons_of_neg (by simpa [kvOf] using e)]
      exact h2
theorem dg_kv {H : Hp} {d : Addr} {es : List (Str × Int)} {z : Str} {i : Int} (h : H d = some (.dK (es.map kvOf))) (hv : valV (es.map kvOf) (Sum.inr z) = some (.int i)) : DGet H d (.str z) (some (.int i)) := .inl ⟨_, .inr z, .inl h, rfl, hv.symm⟩
/-- the number of a name -/
def lookE (es : List (Str × Int)) (z : Str) : Int := match valV (es.map kvOf) (Sum.inr z) with
  | some (.int i) => i
  | _ => 0
theorem look_dg {H : Hp} {d : Addr} {es : List (Str × Int)} {z : Str} (h : H d = some (.dK (es.map kvOf))) (hz : z ∈ es.map (·.1)) : DGet H d (.str z) (some (.int (lookE es z))) := by
  obtain ⟨i, _, e⟩ := val_kv hz
  have q : lookE es z = i := by
    unfold lookE
    rw [e]
  rw [q]
  exact dg_kv h e
def holdsS (f : Str → Int) : PyData → Bool
  | .tuple [.str z, .str so, .int i] => if decide (so = "least") = true then decide (i ≤ f z) else decide (f z ≤ i)
  | _ => false
def ruleH (f : Str → Int) : PyData → Bool
  | .tuple [_, p, q] => holdsS f p || holdsS f q
  | .tuple [.str w, .str a, .str b, .int c] => if decide (w = "off") = true then decide (f a ≤ f b + c) else if decide (w = "most") = true then decide (f a + f b ≤ c) else decide (c ≤ f a + f b)
  | _ => false
def spTSay : Sp := fun vs H Q _ => ∃ (p c d : Addr) (n sl : Int) (es : List (Str × Int)), vs = [.ref p, .ref d, .int sl] ∧ PenC H p c n ∧ n ≤ 300000000 ∧ H d = some (.dK (es.map kvOf)) ∧ 1 ≤ es.length ∧ es.length ≤ 40 ∧ (∀ e ∈ es, -farS ≤ e.2 ∧ e.2 ≤ farS) ∧ 0 ≤ sl ∧ sl ≤ 5 ∧
  ∀ (t : Addr) (z so : Str) (i : Int) (H' : Hp), PenC H' p c (n + 20) → Sb p H H' → H t = none → H' t = some (.tup [.str z, .str so, .int i]) → z ∈ es.map (·.1) → so ∈ sorts2 → -greatS ≤ i → i ≤ greatS → holdsS (lookE es) (.tuple [.str z, .str so, .int i]) = true → Q (.ref t) H'
theorem sorts_mem {x : V} (h : x ∈ [V.str "least", V.str "most"]) : ∃ so ∈ sorts2, x = .str so := by
  simp only [List.mem_cons, List.not_mem_nil, or_false] at h
  rcases h with rfl | rfl
  · exact ⟨_, by decide +kernel, rfl⟩
  · exact ⟨_, by decide +kernel, rfl⟩
theorem farG : farS = 1000000000000000000 := rfl
theorem greatG : greatS = 100000000000000000000 := rfl
theorem kv_keys (es : List (Str × Int)) : (es.map kvOf).map (fun kv => kV kv.1) = (es.map (·.1)).map V.str := by
  simp only [List.map_map]
  rfl
section
variable {P : Program} {w : World} {K : PySem.W.Frag} {mg : Str → Option Value} {base : Heap}
end
end Pk
/-! What stands apart from some addresses; data that is small enough. -/
namespace Pk
open PySem L2
def zn (X : List Addr) (H : Hp) : Hp := fun b => if b ∈ X then none else H b
theorem zn_in {X : List Addr} {H : Hp} {b : Addr} (h : b ∈ X) : zn X H b = none := if_pos h
theorem zn_out {X : List Addr} {H : Hp} {b : Addr} (h : b ∉ X) : zn X H b = H b := if_neg h
theorem zn_some {X : List Addr} {H : Hp} {b : Addr} {o : HO} (h : zn X H b = some o) : b ∉ X ∧ H b = some o := by
  by_cases hb : b ∈ X
  · rw [zn_in hb] at h
    cases h
  · rw [zn_out hb] at h
    exact ⟨hb, h⟩
theorem zn_le {X : List Addr} {H : Hp} : Same (zn X H) H := fun _ _ e => (zn_some e).2
theorem zn_mono {X : List Addr} {H H' : Hp} (s : Same H H') : Same (zn X H) (zn X H') := fun b o e => by
  obtain ⟨h1, h2⟩ := zn_some e
  rw [zn_out h1]
  exact s _ _ h2
theorem zn_sb {X : List Addr} {p : Addr} {H H' : Hp} (s : Sb p H H') (hp : p ∈ X) : Same (zn X H) (zn X H') := fun b o e => by
  obtain ⟨h1, h2⟩ := zn_some e
  rw [zn_out h1]
  exact s.to (fun z => h1 (z ▸ hp)) h2
theorem zn_drop {X : List Addr} {D : Addr} {H : Hp} : Same (zn (D :: X) H) (zn X H) := fun b o e => by
  obtain ⟨h1, h2⟩ := zn_some e
  rw [zn_out fun z => h1 (List.mem_cons_of_mem _ z)]
  exact h2
theorem zn_fresh {X : List Addr} {D : Addr} {H : Hp} (h : H D = none) : Same (zn X H) (zn (D :: X) H) := fun b o e => by
  obtain ⟨h1, h2⟩ := zn_some e
  rw [zn_out fun z => by
    rcases List.mem_cons.mp z with z | z
    · rw [z, h] at h2
      cases h2
    · exact h1 z]
  exact h2
theorem zn_upd {X : List Addr} {D : Addr} {H : Hp} {o : HO} (hD : D ∈ X) : Same (zn X H) (zn X (upd H D o)) := fun b u e => by
  obtain ⟨h1, h2⟩ := zn_some e
  have hb : b ≠ D := fun z => h1 (by rw [z]; exact hD)
  rw [zn_out h1, upd_ne hb]
  exact h2
/-- the addresses are taken; p is one of them -/
structure Al (p : Addr) (X : List Addr) (H : Hp) : Prop where
  mem : p ∈ X
  alc : ∀ b ∈ X, ∃ o, H b = some o
theorem Al.out {p t : Addr} {X : List Addr} {H : Hp} (a : Al p X H) (h : H t = none) : t ∉ X := fun z => by
  obtain ⟨o, e⟩ := a.alc t z
  rw [e] at h
  cases h
theorem Al.sb {p c : Addr} {n : Int} {X : List Addr} {H H' : Hp} (a : Al p X H) (s : Sb p H H') (h : PenC H' p c n) : Al p X H' := ⟨a.mem, fun b hb => by
  by_cases e : b = p
  · subst e
    obtain ⟨kv, h⟩ := h.atp
    exact ⟨_, h⟩
  · obtain ⟨o, ho⟩ := a.alc b hb
    exact ⟨o, s.to e ho⟩⟩
theorem Al.same {p : Addr} {X : List Addr} {H H' : Hp} (a : Al p X H) (s : Same H H') : Al p X H' := ⟨a.mem, fun b hb => let ⟨o, ho⟩ := a.alc b hb; ⟨o, s _ _ ho⟩⟩
theorem Al.upd {p : Addr} {X : List Addr} {H : Hp} {D : Addr} {o : HO} (a : Al p X H) : Al p X (L2.upd H D o) := ⟨a.mem, fun b hb => by
  by_cases e : b = D
  · subst e
    exact ⟨o, upd_same⟩
  · obtain ⟨u, hu⟩ := a.alc b hb
    exact ⟨u, by rw [upd_ne e]; exact hu⟩⟩
theorem Al.new {p : Addr} {X : List Addr} {H : Hp} {D : Addr} {o : HO} (a : Al p X H) (h : H D = none) : Al p (D :: X) (L2.upd H D o) := ⟨List.mem_cons_of_mem _ a.mem, fun b hb => by
  rcases List.mem_cons.mp hb with e | hb
  · rw [e]
    exact ⟨o, upd_same⟩
  · exact (a.upd (D := D) (o := o)).alc b hb⟩
/-! ### data that is small enough -/
def oddDict : List (PyData × PyData) → Bool
  | [] => true
  | [(.str z, .int i)] => decide (z = "a") && decide (i = 0)
  | _ => false
mutual
def lv (k : Nat) : PyData → Bool
  | .none | .bool _ => true
  | .int i => decide (i.natAbs ≤ 10 ^ 60 + k)
  | .str z => z.cps.toList.all fun c => decide (c ≤ 2000000 * (k + 1))
  | .list xs | .tuple xs => lvs k xs
  | .dict es => oddDict es
def lvs (k : Nat) : List PyData → Bool
  | [] => true
  | x :: xs => lv k x && lvs k xs
end
theorem lvs_all {k : Nat} : ∀ {ds : List PyData}, (∀ d ∈ ds, lv k d = true) → lvs k ds = true
  | [], _ => rfl
  | d :: ds, h => by
    rw [lvs, h d List.mem_cons_self, lvs_all fun e he => h e (List.mem_cons_of_mem _ he)]
    rfl
theorem lvs_mem {k : Nat} : ∀ {ds : List PyData} {d : PyData}, lvs k ds = true → d ∈ ds → lv k d = true
  | [], _, _, h => absurd h (by simp)
  | x :: xs, d, e, h => by
    rw [lvs, Bool.and_eq_true] at e
    rcases List.mem_cons.mp h with h | h
    · rw [h]; exact e.1
    · exact lvs_mem e.2 h
mutual
theorem lv_mono {k : Nat} : ∀ {d : PyData}, lv k d = true → lv (k + 1) d = true
  | .none, _ => rfl
  | .bool _, _ => rfl
  | .int i, h => by
    simp only [lv, decide_eq_true_eq] at h ⊢
    omega
  | .str z, h => by
    simp only [lv, List.all_eq_true, decide_eq_true_eq] at h ⊢
    intro c hc
    have := h c hc
    omega
  | .list xs, h => by
    simp only [lv] at h ⊢
    exact lvs_mono h
  | .tuple xs, h => by
    simp only [lv] at h ⊢
    exact lvs_mono h
  | .dict es, h => by simpa only [lv] using h
theorem lvs_mono {k : Nat} : ∀ {ds : List PyData}, lvs k ds = true → lvs (k + 1) ds = true
  | [], _ => rfl
  | d :: ds, h => by
    rw [lvs, Bool.and_eq_true] at h ⊢
    exact ⟨lv_mono h.1, lvs_mono h.2⟩
end
theorem bulk_mem : ∀ {ds : List PyData} {d : PyData}, d ∈ ds → d.bulk + 1 ≤ PyData.bulkAll ds
  | [], _, h => absurd h (by simp)
  | x :: xs, d, h => by
    rw [PyData.bulkAll]
    rcases List.mem_cons.mp h with h | h
    · rw [h]; omega
    · have := bulk_mem h
      omega
theorem bulk_len : ∀ ds : List PyData, ds.length ≤ PyData.bulkAll ds
  | [] => by simp
  | x :: xs => by
    have := bulk_len xs
    rw [PyData.bulkAll, List.length_cons]
    omega
theorem bulk_app : ∀ (as bs : List PyData), PyData.bulkAll (as ++ bs) = PyData.bulkAll as + PyData.bulkAll bs
  | [], bs => by simp [PyData.bulkAll]
  | a :: as, bs => by
    rw [List.cons_append, PyData.bulkAll, PyData.bulkAll, bulk_app as bs]
    omega
theorem depth_mem : ∀ {ds : List PyData} {d : PyData}, d ∈ ds → d.depth ≤ PyData.depthAll ds
  | [], _, h => absurd h (by simp)
  | x :: xs, d, h => by
    rw [PyData.depthAll]
    rcases List.mem_cons.mp h with h | h
    · rw [h]; omega
    · have := depth_mem h
      omega
theorem depth_all {n : Nat} : ∀ {ds : List PyData}, (∀ d ∈ ds, d.depth ≤ n) → PyData.depthAll ds ≤ n
  | [], _ => by simp [PyData.depthAll]
  | d :: ds, h => by
    have h1 := h d List.mem_cons_self
    have h2 := depth_all fun e he => h e (List.mem_cons_of_mem _ he)
    rw [PyData.depthAll]
    omega
theorem bulk_all {n : Nat} : ∀ {ds : List PyData}, (∀ d ∈ ds, d.bulk ≤ n) → PyData.bulkAll ds ≤ (n + 1) * ds.length
  | [], _ => by simp [PyData.bulkAll]
  | d :: ds, h => by
    have h1 := h d List.mem_cons_self
    have h2 := bulk_all fun e he => h e (List.mem_cons_of_mem _ he)
    rw [PyData.bulkAll, List.length_cons, Nat.mul_succ]
    omega
theorem lay_all : ∀ {ds : List PyData}, (∀ d ∈ ds, d.canLay0 = true) → PyData.canLayAll0 ds = true
  | [], _ => by simp only [PyData.canLayAll0]
  | d :: ds, h => by
    rw [PyData.canLayAll0, h d List.mem_cons_self, lay_all fun e he => h e (List.mem_cons_of_mem _ he)]
    rfl
theorem int_short {i : Int} {k : Nat} (hk : k ≤ 10) (h : i.natAbs ≤ 10 ^ 60 + k) : i.natAbs.log2 < 1920 ∧ (PyData.shown (.int i)).length ≤ 100 := by
  have h1 : i.natAbs < 10 ^ 61 := by
    have : (10 : Nat) ^ 60 + 10 < 10 ^ 61 := by decide +kernel
    omega
  constructor
  · by_cases h0 : i.natAbs = 0
    · rw [h0]; decide
    · rw [Nat.log2_lt h0]
      exact Nat.lt_trans h1 (by decide +kernel)
  · have h2 := int_text_length_le10 (k := 61) (by decide) h1
    have e : (PyData.shown (.int i)).length = (toString i).length := by
      simp only [PyData.shown]
      exact ofString_length _
    omega
mutual
/-- what the looks ask of data -/
theorem lv_ok {k : Nat} (hk : k ≤ 10) : ∀ {d : PyData}, lv k d = true → d.bulk ≤ 100000 → okS d = true ∧ d.showable = true ∧ d.leavesShort 100 = true
  | .none, _, _ => ⟨rfl, rfl, rfl⟩
  | .bool _, _, _ => ⟨rfl, rfl, rfl⟩
  | .int i, h, _ => by
    simp only [lv, decide_eq_true_eq] at h
    obtain ⟨a, b⟩ := int_short hk h
    exact ⟨rfl, by simp only [PyData.showable, decide_eq_true_eq]; exact a, by simp only [PyData.leavesShort, decide_eq_true_eq]; exact b⟩
  | .str z, h, hb => by
    simp only [lv, List.all_eq_true, decide_eq_true_eq] at h
    simp only [PyData.bulk] at hb
    refine ⟨by simp only [okS, decide_eq_true_eq]; exact hb, rfl, ?_⟩
    simp only [PyData.leavesShort, List.all_eq_true, decide_eq_true_eq]
    intro c hc
    have q := h c hc
    have e : (16 : Nat) ^ 8 = 4294967296 := by decide
    have : 2000000 * (k + 1) ≤ 22000000 := by omega
    omega
  | .list xs, h, hb => by
    simp only [lv] at h
    simp only [PyData.bulk] at hb
    simpa only [okS, PyData.showable, PyData.leavesShort] using lvs_ok hk h hb
  | .tuple xs, h, hb => by
    simp only [lv] at h
    simp only [PyData.bulk] at hb
    simpa only [okS, PyData.showable, PyData.leavesShort] using lvs_ok hk h hb
  | .dict es, h, hb => by
    simp only [lv] at h
    unfold oddDict at h
    split at h
    · exact ⟨rfl, rfl, rfl⟩
    · rename_i z i
      rw [Bool.and_eq_true, decide_eq_true_eq, decide_eq_true_eq] at h
      obtain ⟨rfl, rfl⟩ := h
      exact ⟨by decide +kernel, by decide +kernel, by decide +kernel⟩
    · cases h
theorem lvs_ok {k : Nat} (hk : k ≤ 10) : ∀ {ds : List PyData}, lvs k ds = true → PyData.bulkAll ds ≤ 100000 → okSs ds = true ∧ PyData.showableAll ds = true ∧ PyData.leavesShortAll 100 ds = true
  | [], _, _ => ⟨rfl, rfl, rfl⟩
  | d :: ds, h, hb => by
    rw [lvs, Bool.and_eq_true] at h
    rw [PyData.bulkAll] at hb
    obtain ⟨a1, a2, a3⟩ := lv_ok hk h.1 (by omega)
    obtain ⟨b1, b2, b3⟩ := lvs_ok hk h.2 (by omega)
    exact ⟨by rw [okSs, a1, b1]; rfl, by rw [PyData.showableAll, a2, b2]; rfl, by rw [PyData.leavesShortAll, a3, b3]; rfl⟩
end
theorem lv_shown {k : Nat} (hk : k ≤ 10) {d : PyData} (h : lv k d = true) (hb : d.bulk ≤ 100000) : d.shown.length ≤ sizeLine := by
  have h1 := PyData.shown_le_bulk 100 (by decide) d (lv_ok hk h hb).2.2
  rw [sizeLine_eq]
  omega
end Pk
namespace Pk
open PySem L2
structure RuleG (ns : List Str) (r : PyData) : Prop where
  rule : ruleD ns r = true
  lay : r.canLay0 = true
  depth : r.depth ≤ 2
  bulk : r.bulk ≤ 120
  lv : lv 0 r = true
theorem nm_str {z : Str} (h : nmOk z) : PyData.strOk z = true ∧ Pk.lv 0 (.str z) = true ∧ z.cps.size ≤ 30 := by
  refine ⟨?_, ?_, h.1⟩
  · unfold PyData.strOk
    rw [← Array.all_toList, List.all_eq_true]
    intro c hc
    have q := h.2 c hc
    simp only [smallC, Bool.and_eq_true, decide_eq_true_eq] at q
    simp only [decide_eq_true_eq]
    omega
  · simp only [Pk.lv, List.all_eq_true, decide_eq_true_eq]
    intro c hc
    have q := h.2 c hc
    simp only [smallC, Bool.and_eq_true, decide_eq_true_eq] at q
    omega
theorem great_lt : greatS.natAbs * 10 ≤ 10 ^ 60 := by decide +kernel
theorem int_lv {i : Int} (h1 : -(10 * greatS) ≤ i) (h2 : i ≤ 10 * greatS) : Pk.lv 0 (.int i) = true := by
  simp only [Pk.lv, decide_eq_true_eq]
  have := great_lt
  have := greatG
  omega
structure SayG (ns : List Str) (r : PyData) : Prop where
  say : sayingD ns r = true
  lay : r.canLay0 = true
  depth : r.depth ≤ 1
  bulk : r.bulk ≤ 50
  lv : Pk.lv 0 r = true
theorem words_nm : ∀ z ∈ (["one", "off", "most", "least", "both", "up", "down"] : List Str), nmOk z := by
  have h : ∀ z ∈ (["one", "off", "most", "least", "both", "up", "down"] : List Str), z.length ≤ 30 ∧ z.cps.toList.all smallC = true := by decide +kernel
  exact fun z hz => ⟨(h z hz).1, fun c hc => List.all_eq_true.mp (h z hz).2 c hc⟩
theorem sort_size : ∀ z ∈ sorts2, z.cps.size ≤ 5 := by decide +kernel
theorem sort_nm {z : Str} (h : z ∈ sorts2) : nmOk z := by
  have e : ∀ z ∈ sorts2, z ∈ (["one", "off", "most", "least", "both", "up", "down"] : List Str) := by decide +kernel
  exact words_nm z (e z h)
theorem pair_nm {z : Str} (h : z ∈ pairs3) : nmOk z := by
  have e : ∀ z ∈ pairs3, z ∈ (["one", "off", "most", "least", "both", "up", "down"] : List Str) := by decide +kernel
  exact words_nm z (e z h)
theorem way_nm {z : Str} (h : z ∈ ways3) : nmOk z := by
  have e : ∀ z ∈ ways3, z ∈ (["one", "off", "most", "least", "both", "up", "down"] : List Str) := by decide +kernel
  exact words_nm z (e z h)
theorem inS_of {zs : List Str} {z : Str} (h : z ∈ zs) : inS zs (.str z) = true := by
  unfold inS
  rw [List.any_eq_true]
  exact ⟨z, h, by simp [strIs]⟩
theorem say_of {ns : List Str} {z so : Str} {i : Int} (h : z ∈ ns) (hs : so ∈ sorts2) (h1 : -greatS ≤ i) (h2 : i ≤ greatS) : sayingD ns (.tuple [.str z, .str so, .int i]) = true := by
  show (inS ns (.str z) && (inS sorts2 (.str so) && wholeD (-greatS) greatS (.int i))) = true
  rw [inS_of h, inS_of hs, wholeD, decide_eq_true h1, decide_eq_true h2]
  rfl
theorem say_g {ns : List Str} {z so : Str} {i : Int} (hz : z ∈ ns) (h : nmOk z) (hs : so ∈ sorts2) (g1 : -greatS ≤ i) (g2 : i ≤ greatS) : SayG ns (.tuple [.str z, .str so, .int i]) := by
  have gg := greatG
  have h1 : -(10 * greatS) ≤ i := by omega
  have h2 : i ≤ 10 * greatS := by omega
  obtain ⟨a1, a2, a3⟩ := nm_str h
  obtain ⟨b1, b2, _⟩ := nm_str (sort_nm hs)
  have b3 := sort_size so hs
  have c := int_lv h1 h2
  refine ⟨say_of hz hs g1 g2, by simp [PyData.canLay0, PyData.canLayAll0, a1, b1], by simp [PyData.depth, PyData.depthAll], ?_, by simp only [Pk.lv, lvs, Bool.and_true, Bool.and_eq_true] at *; exact ⟨a2, b2, c⟩⟩
  simp only [PyData.bulk, PyData.bulkAll]
  omega
theorem rule_one {ns : List Str} {a b : PyData} (ha : SayG ns a) (hb : SayG ns b) : RuleG ns (.tuple [.str "one", a, b]) := by
  have o : PyData.strOk ("one" : Str) = true := by decide +kernel
  have l : Pk.lv 0 (.str "one") = true := by decide +kernel
  have z : ("one" : Str).cps.size = 3 := by decide +kernel
  have d1 := ha.depth
  have d2 := hb.depth
  have e1 := ha.bulk
  have e2 := hb.bulk
  refine ⟨?_, by simp [PyData.canLay0, PyData.canLayAll0, ha.lay, hb.lay, o], ?_, ?_, ?_⟩
  · show (strIs "one" (.str "one") && (sayingD ns a && sayingD ns b)) = true
    rw [ha.say, hb.say]
    simp [strIs]
  · simp only [PyData.depth, PyData.depthAll]
    omega
  · simp only [PyData.bulk, PyData.bulkAll, z]
    omega
  · rw [Pk.lv, lvs, lvs, lvs, l, ha.lv, hb.lv]
    rfl
theorem rule_pair_of {ns : List Str} {w a b : Str} {i : Int} (hw : w ∈ pairs3) (za : a ∈ ns) (zb : b ∈ ns) (ne : a ≠ b) (g1 : -greatS ≤ i) (g2 : i ≤ greatS) : ruleD ns (.tuple [.str w, .str a, .str b, .int i]) = true := by
  show (inS pairs3 (.str w) && (inS ns (.str a) && (inS ns (.str b) && (!sameS (.str a) (.str b) && wholeD (-greatS) greatS (.int i))))) = true
  rw [inS_of hw, inS_of za, inS_of zb, wholeD, decide_eq_true g1, decide_eq_true g2]
  simp [sameS, ne]
theorem rule_pair {ns : List Str} {w a b : Str} {i : Int} (hw : w ∈ pairs3) (za : a ∈ ns) (zb : b ∈ ns) (ne : a ≠ b) (ha : nmOk a) (hb : nmOk b) (g1 : -greatS ≤ i) (g2 : i ≤ greatS) : RuleG ns (.tuple [.str w, .str a, .str b, .int i]) := by
  have gg := greatG
  have h1 : -(10 * greatS) ≤ i := by omega
  have h2 : i ≤ 10 * greatS := by omega
  obtain ⟨w1, w2, w3⟩ := nm_str (pair_nm hw)
  obtain ⟨a1, a2, a3⟩ := nm_str ha
  obtain ⟨b1, b2, b3⟩ := nm_str hb
  have c := int_lv h1 h2
  refine ⟨rule_pair_of hw za zb ne g1 g2, by simp [PyData.canLay0, PyData.canLayAll0, a1, b1, w1], by simp [PyData.depth, PyData.depthAll], ?_, ?_⟩
  · simp only [PyData.bulk, PyData.bulkAll]
    omega
  · rw [Pk.lv, lvs, lvs, lvs, lvs, w2, a2, b2, c]
    rfl
def spTRule : Sp := fun vs H Q _ => ∃ (p c d : Addr) (X : List Addr) (n sl : Int) (es : List (Str × Int)), vs = [.ref p, .ref d, .int sl] ∧ PenC H p c n ∧ Al p X H ∧ n ≤ 200000000 ∧ H d = some (.dK (es.map kvOf)) ∧ 1 ≤ es.length ∧ es.length ≤ 12 ∧ (∀ e ∈ es, nmOk e.1 ∧ -farS ≤ e.2 ∧ e.2 ≤ farS) ∧ (es.map (·.1)).Nodup ∧ 0 ≤ sl ∧ sl ≤ 5 ∧
  ∀ (t : Addr) (r : PyData) (H' : Hp), PenC H' p c (n + 100) → Sb p H H' → Tr (zn X H') (.ref t) r → RuleG (es.map (·.1)) r → ruleH (lookE es) r = true → Q (.ref t) H'
abbrev nTRule : List Str := ["_law_pen_here", "_law_at", "_law_slack", "_law_names_here", "_law_way", "_law_by", "_law_one", "_law_two", "_law_name", "_law_both"]
section
variable {P : Program} {w : World} {K : PySem.W.Frag} {mg : Str → Option Value} {base : Heap}
end
end Pk
namespace Pk
open PySem L2
/-- a dial by its kinds -/
def DialG (d : PyData) : Prop := ∃ (nm way : Str) (lo hi up dn : Int), d = .tuple [.str nm, .int lo, .int hi, .str way, .int up, .int dn] ∧ nmOk nm ∧ (1 ≤ nm.length ∧ nm.length ≤ 8) ∧ way ∈ ways3 ∧ -farS ≤ lo ∧ lo ≤ hi ∧ hi ≤ farS ∧ 1 ≤ up ∧ up ≤ 1000000 ∧ 1 ≤ dn ∧ dn ≤ 1000000
theorem dial_lv {d : PyData} (h : DialG d) : lv 0 d = true ∧ d.bulk ≤ 80 ∧ d.depth ≤ 1 := by
  obtain ⟨nm, way, lo, hi, up, dn, rfl, h1, _, h2, b1, b2, b3, b4, b5, b6, b7⟩ := h
  obtain ⟨_, a2, a3⟩ := nm_str h1
  obtain ⟨_, w2, w3⟩ := nm_str (way_nm h2)
  have fg := farG
  have gg := greatG
  have i1 := int_lv (i := lo) (by omega) (by omega)
  have i2 := int_lv (i := hi) (by omega) (by omega)
  have i3 := int_lv (i := up) (by omega) (by omega)
  have i4 := int_lv (i := dn) (by omega) (by omega)
  refine ⟨?_, ?_, ?_⟩
  · rw [lv, lvs, lvs, lvs, lvs, lvs, lvs, a2, i1, i2, w2, i3, i4]
    rfl
  · simp only [PyData.bulk, PyData.bulkAll]
    omega
  · simp only [PyData.depth, PyData.depthAll]
    omega
theorem dial_tup {H : Hp} {x : V} {d : PyData} (t : Tr H x d) (h : DialG d) : ∃ (b : Addr) (nm way : Str) (lo hi up dn : Int), x = .ref b ∧ H b = some (.tup [.str nm, .int lo, .int hi, .str way, .int up, .int dn]) ∧ -farS ≤ lo ∧ lo ≤ hi ∧ hi ≤ farS ∧ nmOk nm ∧ d = .tuple [.str nm, .int lo, .int hi, .str way, .int up, .int dn] := by
  obtain ⟨nm, way, lo, hi, up, dn, rfl, h1, _, h2, b1, b2, b3, _⟩ := h
  cases t with
  | @tup b xs _ hb al =>
    match xs, al with
    | [_, _, _, _, _, _], .cons (.str _) (.cons (.int _) (.cons (.int _) (.cons (.str _) (.cons (.int _) (.cons (.int _) .nil))))) => exact ⟨b, nm, way, lo, hi, up, dn, rfl, hb, b1, b2, b3, h1, rfl⟩
theorem dial_ok {d : PyData} (h : DialG d) : dialD d = true := by
  obtain ⟨nm, way, lo, hi, up, dn, rfl, h1, h0, h2, b1, b2, b3, b4, b5, b6, b7⟩ := h
  have e1 : nameD (.str nm) = true := by
    rw [nameD_str, decide_eq_true (by omega), decide_eq_true (by omega), List.all_eq_true.mpr h1.2]
    rfl
  show (nameD (.str nm) && (inS ways3 (.str way) && (wholeD (-farS) farS (.int lo) && (wholeD lo farS (.int hi) && (wholeD 1 1000000 (.int up) && wholeD 1 1000000 (.int dn)))))) = true
  rw [e1, inS_of h2, wholeD_int, wholeD_int, wholeD_int, wholeD_int, decide_eq_true b1, decide_eq_true (show lo ≤ farS by omega), decide_eq_true b2, decide_eq_true b3, decide_eq_true b4, decide_eq_true b5, decide_eq_true b6, decide_eq_true b7]
  rfl
theorem dial_name_of {d : PyData} (h : DialG d) : nmOk (nameOf d) ∧ 1 ≤ (nameOf d).length ∧ (nameOf d).length ≤ 8 := by
  obtain ⟨nm, way, lo, hi, up, dn, rfl, h1, h0, _⟩ := h
  exact ⟨h1, h0⟩
theorem rise_none : ∀ {ds : List PyData} {k : Nat} {p : Str}, (∀ d ∈ ds, dialD d = true) → PyProof.Rows.risingS p (ds.map nameOf) = true → (p :: ds.map nameOf).Nodup → fDial k (some p) ds = none
  | [], _, _, _, _, _ => rfl
  | d :: ds, k, p, hd, hr, nd => by
    rw [List.map_cons, PyProof.Rows.risingS, Bool.and_eq_true] at hr
    rw [List.map_cons] at nd
    rw [fDial_cons, if_pos (hd d List.mem_cons_self)]
    have e : leS (nameOf d) p = false := by
      refine lt_of_le_ne (a := p) ?_ fun z => ?_
      · have q := hr.1
        rw [PyProof.Rows.ltCps_eq] at q
        simpa using q
      · rw [List.nodup_cons] at nd
        exact nd.1 (by rw [z]; exact List.mem_cons_self)
    simp only [e]
    exact rise_none (fun x hx => hd x (List.mem_cons_of_mem _ hx)) hr.2 (List.nodup_cons.mp nd).2
theorem fd_none {ds : List PyData} (hd : ∀ d ∈ ds, dialD d = true) (hs : PyProof.Rows.sortedS (ds.map nameOf) = true) (nd : (ds.map nameOf).Nodup) : fDial 0 none ds = none := by
  cases ds with
  | nil => rfl
  | cons d ds =>
    rw [fDial_cons, if_pos (hd d List.mem_cons_self)]
    exact rise_none (fun x hx => hd x (List.mem_cons_of_mem _ hx)) hs nd
theorem fr_snoc {ns : List Str} {r : PyData} (hr : ruleD ns r = true) : ∀ {rs : List PyData} {k : Nat} {past : List PyData}, fRule ns k past rs = none → ((past ++ rs).any fun z => PyData.eqv z r) = false → fRule ns k past (rs ++ [r]) = none
  | [], k, past, _, h2 => by
    rw [List.append_nil] at h2
    rw [List.nil_append, fRule_cons, if_pos hr, h2]
    rfl
  | x :: rs, k, past, h1, h2 => by
    rw [fRule_cons] at h1
    rw [List.cons_append, fRule_cons]
    by_cases c : ruleD ns x = true
    · rw [if_pos c] at h1 ⊢
      by_cases c2 : (past.any fun z => PyData.eqv z x) = true
      · rw [if_pos c2] at h1
        cases h1
      · rw [if_neg c2] at h1 ⊢
        exact fr_snoc hr h1 (by rw [List.append_assoc]; exact h2)
    · rw [if_neg c] at h1
      cases h1
theorem put_nd {acc : List (Str × Int)} {e : Str × Int} (h : e.1 ∉ acc.map (·.1)) : putK (acc.map kvOf) (Sum.inr e.1) (.int e.2) = (acc ++ [e]).map kvOf := by
  unfold putK
  rw [if_neg, List.map_append]
  · rfl
  · rw [List.any_eq_true]
    rintro ⟨kv, hk, ek⟩
    obtain ⟨x, hx, rfl⟩ := List.mem_map.mp hk
    exact h (List.mem_map.mpr ⟨x, hx, Sum.inr.inj (of_decide_eq_true ek)⟩)
theorem merge_nd : ∀ (es acc : List (Str × Int)), ((acc ++ es).map (·.1)).Nodup → mergeK (acc.map kvOf) (es.map kvOf) = (acc ++ es).map kvOf
  | [], acc, _ => by
    rw [List.append_nil]
    rfl
  | e :: es, acc, h => by
    have h' : ((acc ++ [e] ++ es).map (·.1)).Nodup := by rw [List.append_assoc]; exact h
    have q := merge_nd es (acc ++ [e]) h'
    have hn : e.1 ∉ acc.map (·.1) := by
      intro hm
      rw [List.map_append, List.nodup_append] at h
      exact h.2.2 _ hm e.1 (by simp) rfl
    rw [List.append_assoc] at q
    rw [← put_nd hn] at q
    exact q
structure HouseG (ds rs : List PyData) : Prop where
  d1 : 1 ≤ ds.length
  d2 : ds.length ≤ 12
  r2 : rs.length ≤ 40
  dials : ∀ d ∈ ds, DialG d
  rules : ∀ r ∈ rs, RuleG (ds.map nameOf) r
  nd : (ds.map nameOf).Nodup
  fd : fDial 0 none ds = none
  fr : fRule (ds.map nameOf) 0 [] rs = none
theorem HouseG.fault {ds rs : List PyData} (h : HouseG ds rs) : faultD (.tuple [.tuple ds, .tuple rs]) = .none := by
  have e1 : formD (.tuple [.tuple ds, .tuple rs]) = true := by
    show ((decide ((1 : Int) ≤ (ds.length : Int)) && decide ((ds.length : Int) ≤ 12)) && (decide ((0 : Int) ≤ (rs.length : Int)) && decide ((rs.length : Int) ≤ 40))) = true
    have := h.d1
    have := h.d2
    have := h.r2
    rw [decide_eq_true (by omega), decide_eq_true (by omega), decide_eq_true (by omega), decide_eq_true (by omega)]
    rfl
  unfold faultD
  rw [if_pos e1]
  show (match fDial 0 none ds with
    | some k => PyData.tuple [.str "dial", .int k]
    | none => match fRule (ds.map nameOf) 0 [] rs with
      | some k => .tuple [.str "rule", .int k]
      | none => .none) = _
  rw [h.fd, h.fr]
theorem put_kv (acc : List (Str × Int)) (e : Str × Int) (Pr : Str × Int → Prop) (hm : ∀ (z : Str) (i : Int), Pr (z, i) → Pr e → Pr (z, e.2)) (ha : ∀ x ∈ acc, Pr x) (he : Pr e) : ∃ es : List (Str × Int), putK (acc.map kvOf) (Sum.inr e.1) (.int e.2) = es.map kvOf ∧ es.length ≤ acc.length + 1 ∧ 1 ≤ es.length ∧ ∀ x ∈ es, Pr x := by
  unfold putK
  by_cases c : ((acc.map kvOf).any fun kv => decide (kv.1 = Sum.inr e.1)) = true
  · rw [if_pos c]
    refine ⟨acc.map fun x => if x.1 = e.1 then (x.1, e.2) else x, ?_, by rw [List.length_map]; omega, ?_, fun x hx => ?_⟩
    · rw [List.map_map, List.map_map]
      apply List.map_congr_left
      intro x _
      show (if (kvOf x).1 = Sum.inr e.1 then ((kvOf x).1, V.int e.2) else kvOf x) = kvOf (if x.1 = e.1 then (x.1, e.2) else x)
      by_cases h : x.1 = e.1
      · rw [if_pos h, if_pos (by rw [← h]; rfl)]
        rfl
      · rw [if_neg h, if_neg (show ¬ (kvOf x).1 = Sum.inr e.1 from fun z => h (Sum.inr.inj z))]
    · rw [List.length_map]
      cases acc with
      | nil => simp at c
      | cons _ _ => simp
    · obtain ⟨y, hy, rfl⟩ := List.mem_map.mp hx
      by_cases h : y.1 = e.1
      · simp only [if_pos h]
        exact hm y.1 y.2 (ha y hy) he
      · simp only [if_neg h]
        exact ha y hy
  · rw [if_neg c]
    refine ⟨acc ++ [e], by rw [List.map_append]; rfl, by simp, by simp, fun x hx => ?_⟩
    rcases List.mem_append.mp hx with hx | hx
    · exact ha x hx
    · rw [List.mem_singleton.mp hx]
      exact he
theorem merge_kv (Pr : Str × Int → Prop) (hm : ∀ z i y j, Pr (z, i) → Pr (y, j) → Pr (z, j)) : ∀ (es acc : List (Str × Int)), (∀ x ∈ acc, Pr x) → (∀ x ∈ es, Pr x) → ∃ es' : List (Str × Int), mergeK (acc.map kvOf) (es.map kvOf) = es'.map kvOf ∧ es'.length ≤ acc.length + es.length ∧ (1 ≤ acc.length + es.length → 1 ≤ es'.length) ∧ ∀ x ∈ es', Pr x
  | [], acc, ha, _ => ⟨acc, rfl, by simp, fun h => by simpa using h, ha⟩
  | e :: es, acc, ha, he => by
    obtain ⟨a2, e1, e2, e3, e4⟩ := put_kv acc e Pr (fun z i h1 h2 => hm z i e.1 e.2 h1 h2) ha (he e List.mem_cons_self)
    obtain ⟨a3, f1, f2, f3, f4⟩ := merge_kv Pr hm es a2 e4 fun x hx => he x (List.mem_cons_of_mem _ hx)
    refine ⟨a3, ?_, by rw [List.length_cons]; omega, fun _ => f3 (by omega), f4⟩
    rw [← f1, ← e1]
    rfl
theorem Al.cons {p D : Addr} {X : List Addr} {H : Hp} {o : HO} (a : Al p X H) (h : H D = some o) : Al p (D :: X) H := ⟨List.mem_cons_of_mem _ a.mem, fun b hb => by
  rcases List.mem_cons.mp hb with e | hb
  · rw [e]; exact ⟨o, h⟩
  · exact a.alc b hb⟩
theorem pairedMap {α β γ : Type} {F : α → β → Prop} {G : α → γ → Prop} {f : β → γ} : ∀ {l₁ : List α} {l₂ : List β}, Paired F l₁ l₂ → (∀ a b, F a b → G a (f b)) → Paired G l₁ (l₂.map f)
  | _, _, .nil, _ => .nil
  | _, _, .cons a t, h => .cons (h _ _ a) (pairedMap t h)
theorem atStr {ss : List Str} {i : Nat} {z : Str} (h : ss[i]? = some z) : atI (ss.map V.str) ((i : Nat) : Int) = some (.str z) := atI_nat (by rw [List.getElem?_map, h]; rfl)
theorem atInt {is : List Int} {i : Nat} {z : Int} (h : is[i]? = some z) : atI (is.map V.int) ((i : Nat) : Int) = some (.int z) := atI_nat (by rw [List.getElem?_map, h]; rfl)
theorem zip_maps : ∀ (es : List (Str × Int)), (es.map (·.1)).zip (es.map (·.2)) = es
  | [] => rfl
  | e :: es => by rw [List.map_cons, List.map_cons, List.zip_cons_cons, zip_maps es]
theorem zip_snoc {ds : List PyData} {is : List Int} {i : Nat} {d : PyData} {v : Int} {F : PyData × Int → Prop} (hl : is.length = i) (hd : ds[i]? = some d) (h : ∀ p ∈ ds.zip is, F p) (h2 : F (d, v)) : ∀ p ∈ ds.zip (is ++ [v]), F p := by
  induction is generalizing ds i with
  | nil =>
    subst hl
    cases ds with
    | nil => simp at hd
    | cons d0 ds =>
      simp at hd
      subst hd
      intro p hp
      simp at hp
      rw [hp]
      exact h2
  | cons j is ih =>
    subst hl
    cases ds with
    | nil => simp at hd
    | cons d0 ds =>
      intro p hp
      rw [List.cons_append, List.zip_cons_cons] at hp
      rcases List.mem_cons.mp hp with e | hp
      · exact h p (by rw [e, List.zip_cons_cons]; exact List.mem_cons_self)
      · exact ih rfl (by simpa using hd) (fun q hq => h q (by rw [List.zip_cons_cons]; exact List.mem_cons_of_mem _ hq)) p hp
/-- a number of a dial's span -/
def inSpan : PyData → Int → Prop
  | .tuple [_, .int lo, .int hi, _, _, _], i => lo ≤ i ∧ i ≤ hi
  | _, _ => False
def spHouseL : Sp := fun vs H Q _ => ∃ (p c : Addr) (X : List Addr) (n wd rl : Int) (m : Nat), vs = [.ref p, .int (m : Nat), .int wd, .int rl] ∧ 0 ≤ wd ∧ wd ≤ 100 ∧ PenC H p c n ∧ Al p X H ∧ n ≤ 100000000 ∧ 1 ≤ m ∧ m ≤ 12 ∧ 0 ≤ rl ∧ rl ≤ 40 ∧
  ∀ (t h y : Addr) (ds rs : List PyData) (is : List Int) (H' : Hp), PenC H' p c (n + 5000) → Sb p H H' → H' t = some (.tup [.ref h, .ref y]) → t ≠ p → Tr (zn X H') (.ref h) (.tuple [.tuple ds, .tuple rs]) → H' y = some (.tup (is.map V.int)) → y ∉ X → is.length = ds.length → (∀ j ∈ is, -farS ≤ j ∧ j ≤ farS) → HouseG ds rs → (∀ p ∈ ds.zip is, inSpan p.1 p.2) → (∀ r ∈ rs, ruleH (lookE ((ds.map nameOf).zip is)) r = true) → Q (.ref t) H'
abbrev nHouse : List Str := ["_law_pen_here", "_law_many", "_law_wide", "_law_rules", "_law_names_here", "_law_lot", "_law_name", "_law_dials", "_law_dial_here", "_law_numbers", "_law_at", "_law_k", "_law_rule"]
section
variable {P : Program} {w : World} {K : PySem.W.Frag} {mg : Str → Option Value} {base : Heap}
end
end Pk
namespace Pk
open PySem L2
/-- what _law_odd picks from -/
def odds : List PyData :=
  [.none, .bool true, .bool false, .int 0, .int 1, .int (-1), .int (10 ^ 18), .int (10 ^ 20), .int (-10 ^ 59), .str "", .str "0", .str "a", .str "least", .tuple [], .tuple [.int 0], .list [], .list [.int 0], .dict []] ++
  [.tuple [.none], .tuple [.str "a", .int 0], .tuple [.str "a", .str "least", .int 0], .tuple [.tuple [.str "a", .str "least", .int 0]], .list [.tuple [.str "a", .str "least", .int 0]], .dict [(.str "a", .int 0)], .tuple [.tuple []]] ++
  [.tuple [.tuple [], .tuple []], .tuple [.str "one", .tuple [.str "a", .str "least", .int 0], .tuple [.str "a", .str "most", .int 0]], .tuple [.str "off", .str "a", .str "b", .int 0]]
theorem odds_ok : (odds.all fun d => lv 0 d && decide (d.bulk ≤ 30) && decide (d.depth ≤ 3)) = true := by decide +kernel
theorem odd_lv {d : PyData} (h : d ∈ odds) : lv 0 d = true ∧ d.bulk ≤ 30 ∧ d.depth ≤ 3 := by
  have q := List.all_eq_true.mp odds_ok d h
  simp only [Bool.and_eq_true, decide_eq_true_eq] at q
  exact ⟨q.1.1, q.1.2, q.2⟩
theorem newP_zn {p : Addr} {X : List Addr} {H H' : Hp} (a : Al p X H) : Same (newP H H') (zn X H') := fun b o e => by
  obtain ⟨h1, h2⟩ := newP_some e
  rw [zn_out (a.out h1)]
  exact h2
def spOddL : Sp := fun vs H Q _ => ∃ (p c : Addr) (X : List Addr) (n : Int), vs = [.ref p] ∧ PenC H p c n ∧ Al p X H ∧ n ≤ 900000000 ∧
  ∀ (x : V) (d : PyData) (H' : Hp), d ∈ odds → Tr (zn X H') x d → PenC H' p c (n + 1) → Sb p H H' → Q x H'
theorem call_isTL {X : Cx} : CallR X (.builtin "isinstance") (fun xs H Q => ∃ (x : V) (tp : Addr) (d : PyData), xs = [x, .ref tp] ∧ H tp = some (.tup [.ty "tuple", .ty "list"]) ∧ Tr H x d ∧ Q (.bl (isTup d || isLst d)) H) := by
  intro pz s σ H xs us Q I r h
  obtain ⟨x, tp, d, rfl, ht, t, q⟩ := h
  refine call_isiT pz s σ H _ us Q I r ⟨x, tp, _, _, [.type "tuple", .type "list"], _, rfl, ht, .cons (.ty _) (.cons (.ty _) .nil), t.ty, ?_, q⟩
  have h2 : PySem.W.kitAny X.K (.type (tyD d)) [.type "list"] = some (isLst d) := kitAny_cons (b := isLst d) (r := isLst d) (kit_ty (kL d)) (fun e => by rw [e]; exact kitAny_nil) (fun e => e)
  cases c : isTup d with
  | true => exact kitAny_cons (b := true) (r := true) (by rw [← c]; exact kit_ty (kT d)) (fun e => by cases e) (fun _ => rfl)
  | false => exact kitAny_cons (b := false) (r := isLst d) (by rw [← c]; exact kit_ty (kT d)) (fun _ => h2) (fun e => by cases e)
/-! ### texts -/
theorem ofS_le (s : String) : ∀ c ∈ (Str.ofString s).cps.toList, c ≤ 1114112 := fun c hc => by
  rw [PyProof.Rows.signs_ofString] at hc
  obtain ⟨ch, _, rfl⟩ := List.mem_map.mp hc
  have h := ch.valid
  have h2 : ch.val.toNat < 1114112 := by
    rcases h with h | ⟨_, h⟩
    · omega
    · exact h
  exact Nat.le_of_lt h2
theorem shifted_le {M : Nat} : ∀ {one : List (Nat × Nat × Nat)} {c v : Nat}, (one.all fun e => decide (e.2.2 ≤ M)) = true → Unicode.shifted one c = some v → v ≤ M + c
  | [], c, v, _, h => by cases h
  | (a, b, t) :: rest, c, v, hm, h => by
    rw [List.all_cons, Bool.and_eq_true, decide_eq_true_eq] at hm
    unfold Unicode.shifted at h
    split at h
    · cases h
    · split at h
      · cases h
        have h3 : t ≤ M := hm.1
        omega
      · exact shifted_le hm.2 h
theorem lookup_all {M : Nat} : ∀ {sv : List (Nat × List Nat)} {c : Nat} {cs : List Nat}, (sv.all fun e => e.2.all fun x => decide (x ≤ M)) = true → sv.lookup c = some cs → ∀ x ∈ cs, x ≤ M
  | [], c, cs, _, h => by cases h
  | (a, l) :: rest, c, cs, hm, h => by
    rw [List.all_cons, Bool.and_eq_true] at hm
    rw [List.lookup_cons] at h
    split at h
    · cases h
      intro x hx
      have := List.all_eq_true.mp hm.1 x hx
      exact of_decide_eq_true this
    · exact lookup_all hm.2 h
theorem tabs1 : (UnicodeData.oneUpper.all fun e => decide (e.2.2 ≤ 1200000)) = true := by decide +kernel
theorem tabs2 : (UnicodeData.severalUpper.all fun e => e.2.all fun x => decide (x ≤ 1200000)) = true := by decide +kernel
theorem upperOf_le {c x : Nat} (h : x ∈ Unicode.upperOf c) : x ≤ 1200000 + c := by
  unfold Unicode.upperOf Unicode.image at h
  split at h
  · rename_i cs e
    have := lookup_all tabs2 e x h
    omega
  · cases e : Unicode.shifted UnicodeData.oneUpper c with
    | none =>
      rw [e] at h
      have : x = c := by simpa using h
      omega
    | some v =>
      rw [e] at h
      have : x = v := by simpa using h
      rw [this]
      exact shifted_le tabs1 e
theorem upper_mem {z : Str} {x : Nat} (h : x ∈ (Txt.upper z).cps.toList) : ∃ c ∈ z.cps.toList, x ≤ 1200000 + c := by
  unfold Txt.upper at h
  have h : x ∈ ((z.cps.mapIdx fun _ c => (Unicode.upperOf c).toArray).flatten).toList := h
  rw [Array.mem_toList_iff, Array.mem_flatten] at h
  obtain ⟨as, h1, h2⟩ := h
  rw [Array.mem_mapIdx] at h1
  obtain ⟨i, hi, rfl⟩ := h1
  exact ⟨z.cps[i], by simp, upperOf_le (by simpa using h2)⟩
section
variable {P : Program} {w : World} {K : PySem.W.Frag} {mg : Str → Option Value} {base : Heap}
end
end Pk
namespace Pk
open PySem L2
theorem lv_le {j k : Nat} (h : j ≤ k) {d : PyData} (hl : lv j d = true) : lv k d = true := by
  induction h with
  | refl => exact hl
  | step _ ih => exact lv_mono ih
theorem TrAll.drop {H : Hp} : ∀ {xs : List V} {ds : List PyData} (n : Nat), TrAll H xs ds → TrAll H (xs.drop n) (ds.drop n)
  | _, _, 0, h => h
  | _, _, _ + 1, .nil => .nil
  | _, _, n + 1, .cons _ t => TrAll.drop n t
theorem TrAll.rev {H : Hp} : ∀ {xs : List V} {ds : List PyData}, TrAll H xs ds → TrAll H xs.reverse ds.reverse
  | _, _, .nil => .nil
  | _, _, .cons h t => by
    rw [List.reverse_cons, List.reverse_cons]
    exact (TrAll.rev t).snoc h
theorem TrAll.set {H : Hp} {y : V} {e : PyData} (hy : Tr H y e) : ∀ {xs : List V} {ds : List PyData} (n : Nat), TrAll H xs ds → TrAll H (xs.set n y) (ds.set n e)
  | _, _, _, .nil => .nil
  | _, _, 0, .cons _ t => .cons hy t
  | _, _, n + 1, .cons h t => .cons h (TrAll.set hy n t)
theorem TrAll.erase {H : Hp} : ∀ {xs : List V} {ds : List PyData} (n : Nat), TrAll H xs ds → TrAll H (xs.eraseIdx n) (ds.eraseIdx n)
  | _, _, _, .nil => .nil
  | _, _, 0, .cons _ t => t
  | _, _, n + 1, .cons h t => .cons h (TrAll.erase n t)
def cutD (ds : List PyData) (lo hi : Option Int) : List PyData := (ds.drop (HT.sIx ds.length 0 lo)).take (HT.sIx ds.length ds.length hi - HT.sIx ds.length 0 lo)
theorem TrAll.cut {H : Hp} {xs : List V} {ds : List PyData} (h : TrAll H xs ds) (lo hi : Option Int) : TrAll H (cutV xs lo hi) (cutD ds lo hi) := by
  unfold cutV cutD
  rw [h.length]
  exact (h.drop _).take _
theorem cutD_mem {ds : List PyData} {lo hi : Option Int} {d : PyData} (h : d ∈ cutD ds lo hi) : d ∈ ds := List.mem_of_mem_drop (List.mem_of_mem_take h)
theorem bulk_take (ds : List PyData) (n : Nat) : PyData.bulkAll (ds.take n) + PyData.bulkAll (ds.drop n) = PyData.bulkAll ds := by rw [← bulk_app, List.take_append_drop]
theorem bulk_cut (ds : List PyData) (lo hi : Option Int) : PyData.bulkAll (cutD ds lo hi) ≤ PyData.bulkAll ds := by
  unfold cutD
  have h1 := bulk_take ds (HT.sIx ds.length 0 lo)
  have h2 := bulk_take (ds.drop (HT.sIx ds.length 0 lo)) (HT.sIx ds.length ds.length hi - HT.sIx ds.length 0 lo)
  omega
theorem bulk_rev : ∀ ds : List PyData, PyData.bulkAll ds.reverse = PyData.bulkAll ds
  | [] => rfl
  | d :: ds => by
    rw [List.reverse_cons, bulk_app, bulk_rev ds, PyData.bulkAll, PyData.bulkAll, PyData.bulkAll]
    omega
theorem bulk_set {d e : PyData} : ∀ {ds : List PyData} {i : Nat}, ds[i]? = some d → PyData.bulkAll (ds.set i e) + d.bulk = PyData.bulkAll ds + e.bulk
  | [], i, h => by simp at h
  | x :: xs, 0, h => by
    cases (show some x = some d from h)
    rw [List.set_cons_zero, PyData.bulkAll, PyData.bulkAll]
    omega
  | x :: xs, i + 1, h => by
    have q := bulk_set (e := e) (ds := xs) (i := i) h
    rw [List.set_cons_succ, PyData.bulkAll, PyData.bulkAll]
    omega
theorem bulk_erase : ∀ (ds : List PyData) (i : Nat), PyData.bulkAll (ds.eraseIdx i) ≤ PyData.bulkAll ds
  | [], i => by simp
  | x :: xs, 0 => by
    rw [List.eraseIdx_cons_zero, PyData.bulkAll]
    omega
  | x :: xs, i + 1 => by
    have := bulk_erase xs i
    rw [List.eraseIdx_cons_succ, PyData.bulkAll, PyData.bulkAll]
    omega
/-- a tuple (tp) or a list -/
def obj (tp : Bool) (xs : List V) : HO := if tp = true then .tup xs else .lst xs
def mkD (tp : Bool) (ds : List PyData) : PyData := if tp = true then .tuple ds else .list ds
theorem seq_of {H : Hp} {x : V} {d : PyData} (t : Tr H x d) (h : (isTup d || isLst d) = true) : ∃ a xs ds tp, x = .ref a ∧ H a = some (obj tp xs) ∧ TrAll H xs ds ∧ d = mkD tp ds := by
  cases t with
  | @lst a xs ds h' al => exact ⟨a, xs, ds, false, rfl, h', al, rfl⟩
  | @tup a xs ds h' al => exact ⟨a, xs, ds, true, rfl, h', al, rfl⟩
  | _ => cases h
theorem mk_bulk (tp : Bool) (ds : List PyData) : (mkD tp ds).bulk = PyData.bulkAll ds := by cases tp <;> rfl
theorem mk_lv (k : Nat) (tp : Bool) (ds : List PyData) : lv k (mkD tp ds) = lvs k ds := by cases tp <;> rfl
theorem mk_depth (tp : Bool) (ds : List PyData) : (mkD tp ds).depth = (PyData.tuple ds).depth := by cases tp <;> simp [mkD, PyData.depth]
theorem depth_tup (ds : List PyData) : (PyData.tuple ds).depth = PyData.depthAll ds + 1 := by simp [PyData.depth, Nat.add_comm]
theorem mk_isT (tp : Bool) (ds : List PyData) : isTup (mkD tp ds) = tp := by cases tp <;> rfl
theorem mk_isI (tp : Bool) (ds : List PyData) : isI (mkD tp ds) = false := by cases tp <;> rfl
theorem mk_isS (tp : Bool) (ds : List PyData) : isStr (mkD tp ds) = false := by cases tp <;> rfl
theorem sq_obj {K : PySem.W.Frag} {H : Hp} {a : Addr} {tp : Bool} {xs : List V} (h : H a = some (obj tp xs)) : SqL K H a xs ∨ SqT K H a xs := by
  cases tp with
  | true => exact .inr (SqT.of h)
  | false => exact .inl (SqL.of h)
theorem tr_obj {H : Hp} {a : Addr} {tp : Bool} {xs : List V} {ds : List PyData} (h : H a = some (obj tp xs)) (al : TrAll H xs ds) : Tr H (.ref a) (mkD tp ds) := by
  cases tp with
  | true => exact .tup h al
  | false => exact .lst h al
theorem ix_obj {K : PySem.W.Frag} {H : Hp} {a : Addr} {tp : Bool} {xs : List V} {i : Int} {y : V} {Q : VK} (h : H a = some (obj tp xs)) (hi : atI xs i = some y) (q : Q y H) : rIx K (.ref a) (.int i) H Q := by
  cases tp with
  | true => exact .inr (.inl ⟨a, xs, i, y, rfl, rfl, SqT.of h, hi, q⟩)
  | false => exact .inl ⟨a, xs, i, y, rfl, rfl, SqL.of h, hi, q⟩
def spBent (m : Nat) : Sp := fun vs H Q _ => ∃ (p c : Addr) (X : List Addr) (n : Int) (k : Nat) (x : V) (d : PyData), vs = [.ref p, x] ∧ PenC H p c n ∧ Al p X H ∧ n + 4 * m ≤ 500000000 ∧ Tr (zn X H) x d ∧ lv k d = true ∧ k ≤ 5 ∧ d.bulk ≤ 30000 ∧ d.depth < m ∧ m ≤ 100 ∧
  ∀ (y : V) (d' : PyData) (H' : Hp), PenC H' p c (n + 4 * m) → Sb p H H' → Tr (zn X H') y d' → lv (k + 1) d' = true → d'.bulk ≤ 4 * d.bulk + 100 → d'.depth ≤ d.depth + 4 → Q y H'
abbrev nBent : List Str := ["_law_pen_here", "_law_thing", "_law_at", "_law_way", "_law_rows", "_law_pair", "_law_some"]
section
variable {P : Program} {w : World} {K : PySem.W.Frag} {mg : Str → Option Value} {base : Heap}
theorem bent_none {f : Addr} {fd : FuncData} {j : Nat} : FnOk P w K mg base CX0 j f fd ["_law_pen_here", "_law_thing"] (spBent 0) := by
  have no : ∀ vs H Q E, ¬ spBent 0 vs H Q E := fun vs H Q E h => by
    obtain ⟨p, c, X, n, k, x, d, _, _, _, _, _, _, _, _, h0, _⟩ := h
    omega
  exact ⟨fun vs H Q E h => absurd h (no vs H Q E), fun A outer s H args us vs Q E _ _ _ _ h => absurd h (no vs H Q E)⟩
end
end Pk
/-! Quiet runs: what a def does that is called within a generator expression. -/
namespace Pk
open PySem PySem.Spec PyProof.Rows L2
/-- the surroundings of a quiet run: env's names are m -/
structure Qe (K : PySem.W.Frag) (mg : Str → Option Value) (env : Env) (m : Str → Option Value) (s : Shared) : Prop where
  kind : env.scope.kind = .function
  glob : env.globals = mainGlobals
  blt : env.builtins = builtinsNs
  ns : s.heap.Ns env.locals m
  kin : K.In s.heap
  gns : s.heap.Ns mainGlobals mg
  bns : ∃ mb, s.heap.Ns builtinsNs mb ∧ ∀ x : Str, x ≠ "__name__" → mb x = bootBuiltins x
  noL : s.heap.NoLimit
theorem Qe.ext {K : PySem.W.Frag} {mg : Str → Option Value} {env : Env} {m : Str → Option Value} {s s' : Shared} (q : Qe K mg env m s) (k : ∀ b o, s.heap.get? b = some o → s'.heap.get? b = some o) : Qe K mg env m s' :=
  ⟨q.kind, q.glob, q.blt, q.ns.keeps k, q.kin.keeps k, q.gns.keeps k, let ⟨mb, h1, h2⟩ := q.bns; ⟨mb, h1.keeps k, h2⟩, q.noL.keeps k⟩
theorem Qe.tok {K : PySem.W.Frag} {mg : Str → Option Value} {env : Env} {m : Str → Option Value} {s : Shared} (q : Qe K mg env m s) (t : Nat) : Qe K mg env m { s with toks := t } := q.ext fun _ _ e => e
section
variable {P : Program} {w : World} {K : PySem.W.Frag} {mg : Str → Option Value} {A : Around} {E : Value → Shared → Prop} {env : Env} {m : Str → Option Value} {s : Shared} {Q : Value → Shared → Prop}
theorem q_loc {x : Str} {v : Value} {p : Pos} (q : Qe K mg env m s) (hl : env.scope.names.lookup x = some .local) (hm : m x = some v) (h : Q v s) (hd : (x == ("__debug__" : Str)) = false := by decide) : wpAny (model P w) A (eval (.Name x p) env) Q E s :=
  wpAny_Name (wpAny_loadName_local q.kind hl q.ns hm h) hd
theorem q_blt {x : Str} {u : Value} {p : Pos} (q : Qe K mg env m s) (hg : env.scope.names.lookup x = some .globalImplicit) (hm : mg x = none) (hv : bootBuiltins x = some u) (h : Q u s)
    (hn : x ≠ "__name__" := by decide) (hd : (x == ("__debug__" : Str)) = false := by decide) : wpAny (model P w) A (eval (.Name x p) env) Q E s := by
  obtain ⟨mb, h1, h2⟩ := q.bns
  exact Calls.Name_function_global q.kind hg (Calls.loadGlobal_builtin (by rw [q.glob]; exact q.gns) hm (by rw [q.blt]; exact h1) ((h2 x hn).trans hv) h) hd
theorem q_glob {x : Str} {u : Value} {p : Pos} (q : Qe K mg env m s) (hg : env.scope.names.lookup x = some .globalImplicit) (hm : mg x = some u) (h : Q u s)
    (hd : (x == ("__debug__" : Str)) = false := by decide) : wpAny (model P w) A (eval (.Name x p) env) Q E s :=
  Calls.Name_function_global q.kind hg (Calls.loadGlobal_global (by rw [q.glob]; exact q.gns) hm h) hd
theorem q_isB {e : Expr} {Qb : Bool → Shared → Prop} (h : wpAny (model P w) A (eval e env) (fun v s1 => ∃ b, v = .bool b ∧ Qb b s1) E s) (he : ∀ whole, isTrue e env whole = (do let v ← whole; standAt e.pos; holding [v] (truthy v)) := by intro _; rfl) :
    wpAny (model P w) A (isTrue e env (eval e env)) Qb E s :=
  isTrue_plain (thn h fun v s1 ⟨b, e1, q⟩ => by
    subst e1
    exact wpAny_truthy_bool q) (he _)
/-- isinstance(x, T), x a local -/
theorem q_isi {x T : Str} {p1 p2 p3 pos : Pos} {u : Value} {Ty : String} {t : Value} {b : Bool} {Pz : Heap → Prop} (q : Qe K mg env m s) (hl : env.scope.names.lookup x = some .local) (hm : m x = some u) (hi : env.scope.names.lookup ("isinstance" : Str) = some .globalImplicit) (mi : mg "isinstance" = none)
    (hT : env.scope.names.lookup T = some .globalImplicit) (mT : mg T = none) (bT : bootBuiltins T = some (.type Ty)) (Z : PySem.W.KitX K u t Pz) (pz : Pz s.heap) (ek : PySem.W.kitOne K t (.type Ty) = some b) (hu : u ≠ .builtin "__main__.__loader__#opaque")
    (h : ∀ tk, Q (.bool b) { s with toks := tk }) (nT : T ≠ "__name__" := by decide) (dT : (T == ("__debug__" : Str)) = false := by decide) (dx : (x == ("__debug__" : Str)) = false := by decide) :
    wpAny (model P w) A (eval (.Call (.Name "isinstance" p1) [.Name x p2, .Name T p3] [] pos) env) Q E s := by
  refine wpAny_Call_Name_kw (q_blt (u := .builtin "isinstance") q hi mi (by decide +kernel) ?_)
  refine PyProof.Rows.callWith_builtin1 ?_ (by rfl) (by rfl)
  refine Calls.spliced_cons (q_loc q hl hm ?_ dx)
  refine Calls.spliced_cons (q_blt q hT mT bT ?_ nT dT)
  refine Calls.spliced_nil ?_
  exact PySem.W.kia_one Z q.kin pz ek hu h
end
/-- is_whole of any data, with nothing but tokens and its own frame left behind -/
theorem quietWhole {P : Program} {w : World} {K : PySem.W.Frag} {mg : Str → Option Value} {A : Around} {s : Shared} {f : Addr} {fd : FuncData} (F : Fun K "is_whole" "is_whole" sWhole f fd) (bG : Binds K fd ["thing", "low", "high"] []) (B : BltH mg)
    (inK : K.In s.heap) (gl : s.heap.Ns mainGlobals mg) (bl : ∃ mb, s.heap.Ns builtinsNs mb ∧ ∀ x : Str, x ≠ "__name__" → mb x = bootBuiltins x) (noL : s.heap.NoLimit) (hd : A.depth < recursionLimit)
    {u : Value} {d : PyData} {lo hi : Int} {t1 t2 : Tok} {Pz : Heap → Prop} (Z : PySem.W.KitX K u (.type (tyD d)) Pz) (pz : ∀ h' : Heap, (∀ b o, s.heap.get? b = some o → h'.get? b = some o) → Pz h') (hu : u ≠ .builtin "__main__.__loader__#opaque") (hi' : ∀ i, d = .int i → ∃ t, u = .int i t) :
    codeAny (model P w) A (.call (.ref f) ⟨[u, .int lo t1, .int hi t2], []⟩) (fun r s' => r = .ok (.ret (.bool (wholeD lo hi d))) ∧ Keeps s s') s := by
  have hbt := bG s [u, .int lo t1, .int hi t2] inK rfl
  obtain ⟨oc, oq, kV, doc, pm, an, cv, ct, osl, rfl, lk, hcd⟩ := F.ex
  refine codeAny_call_function hd (inK _ _ lk) rfl scWhole.co scWhole.gen rfl (PySem.W.codeRec_of inK hcd) (hbt _ _ _ _ (wpAny_newFunctionEnv_cells scWhole.kind (fun y hy => ?_) fun env he sz xx => ?_))
  · rcases scWhole.par y.1 (List.of_mem_zip (show (y.1, y.2) ∈ List.zip (["thing", "low", "high"] : List Str) ([u, .int lo t1, .int hi t2] ++ []) from hy)).1 with z | z
    · exact .inl z
    · exact .inr ⟨z, PySem.W.cellsFrom_some _ _ _ (.inl z)⟩
  · subst he
    have kp := xx.toInCall.keep
    refine ⟨noL.keeps kp, codeAny_func ?_⟩
    obtain ⟨h1, tk1, e1⟩ := xx.toInCall.same
    have q : Qe K mg _ _ sz := ⟨scWhole.kind, rfl, rfl, xx.toInCall.ns, inK.keeps kp, gl.keeps kp, let ⟨mb, z1, z2⟩ := bl; ⟨mb, z1.keeps kp, z2⟩, noL.keeps kp⟩
    have pzz : Pz sz.heap := pz _ kp
    have done : ∀ (t : Nat) (b : Bool), b = wholeD lo hi d → ((.ok (.ret (.bool b)) : Result) = .ok (.ret (.bool (wholeD lo hi d)))) ∧ Keeps s { sz with toks := t } := fun t b e => by
      subst e
      refine ⟨rfl, sz.heap, t, ?_, kp⟩
      rw [e1]
    have isB : PySem.W.kitOne K (.type (tyD d)) (.type "bool") = some (isB d) := kit_ty (kB d)
    have isI' : PySem.W.kitOne K (.type (tyD d)) (.type "int") = some (isI d) := kit_ty (kI d)
    refine wpAny_execs_cons (wpAny_If ?_)
    refine isTrue_or (q_isB (q_isi q rfl (by rfl) rfl B.isinstance rfl B.bool (by decide +kernel) Z pzz isB hu fun tk => ⟨_, rfl, ?_⟩))
    cases hB : Pk.isB d with
    | true =>
      have e : false = wholeD lo hi d := by cases d <;> first | rfl | (simp [Pk.isB] at hB)
      exact wpAny_execs_cons (wpAny_Return_some (Constant_bool (done _ _ e)))
    | false =>
      refine isTrue_or (isTrue_not (q_isB (q_isi (q.tok tk) rfl (by rfl) rfl B.isinstance rfl B.int (by decide +kernel) Z pzz isI' hu fun tk2 => ⟨_, rfl, ?_⟩)))
      cases hI : Pk.isI d with
      | false =>
        have e : false = wholeD lo hi d := by cases d <;> first | rfl | (simp [Pk.isI] at hI)
        exact wpAny_execs_cons (wpAny_Return_some (Constant_bool (done _ _ e)))
      | true =>
        refine isTrue_or_nil ?_
        refine wpAny_execs_nil (wpAny_execs_cons (wpAny_Return_some ?_))
        obtain ⟨i, rfl⟩ : ∃ i, d = .int i := by cases d <;> first | exact ⟨_, rfl⟩ | (simp [Pk.isI, Pk.isB] at hI hB)
        obtain ⟨t, rfl⟩ := hi' i rfl
        refine Compare_chain (q_loc (q.tok tk2) rfl (by rfl) (chain_link (q_loc (q.tok tk2) rfl (by rfl) (le_int (wpAny_truthy_bool ?_)))))
        have ew := wholeD_int lo hi i
        by_cases c : lo ≤ i
        · rw [decide_eq_true c] at ew ⊢
          exact chain_last (q_loc (q.tok _) rfl (by rfl) (le_int (done _ _ ew.symm)))
        · rw [decide_eq_false c] at ew ⊢
          exact done _ _ ew.symm
end Pk
section
set_option maxHeartbeats 2000000
/-! all(test of x, y for x, y in zip(two tuples)), the test a quiet run. -/
namespace Pk
open PySem PySem.Spec PyProof.Rows L2
theorem notNew {q n : Nat} (h : q < n) : q ≠ n + 4 ∧ q ≠ n + 3 ∧ q ≠ n ∧ q ≠ n + 1 := by omega
theorem out4 {q n : Addr} (h : q < n) : q ∉ [n + 4, n + 3, n, n + 1] := fun z => by
  obtain ⟨h1, h2, h3, h4⟩ := notNew h
  simp only [List.mem_cons, List.not_mem_nil, or_false] at z
  rcases z with e | e | e | e
  · exact h1 e
  · exact h2 e
  · exact h3 e
  · exact h4 e
theorem zip_sep {z TI TO i1 i2 a b : Addr} (D : ZipApart z TI TO i1 i2 a b) : ZipSep2 z TI TO i1 i2 [i1, a] [i2, b] := by
  refine ⟨D.TIz, D.TOz, D.TITO, D.TIi1, List.mem_cons_self, fun q => ?_, fun q => ?_, D.TIi2, List.mem_cons_self, fun q => ?_, fun q => ?_, fun q => ?_, fun q => ?_⟩ <;> simp only [List.mem_cons, List.not_mem_nil, or_false] at q <;> rcases q with e | e
  · exact D.i1z e.symm
  · exact D.l1z e.symm
  · exact D.TOi1 e
  · exact D.l1TO e.symm
  · exact D.i2z e.symm
  · exact D.l2z e.symm
  · exact D.TOi2 e
  · exact D.l2TO e.symm
  · exact D.i12 e
  · exact D.l2i1 e.symm
  · exact D.i12 e.symm
  · exact D.l1i2 e.symm
/-- all but the table at P stands as it stood -/
def KeptBut (P : Addr) (h h' : Heap) : Prop := ∀ b o, b ≠ P → h.get? b = some o → h'.get? b = some o
theorem Tr.kitAt {X : Cx} {pz : List (Addr × Obj)} {σ : L2.St} {H : Hp} {s : Shared} {x : V} {d : PyData} {v : Value} {P : Addr} {ps : Array Value} (I : L2.Inv X pz σ H s) (t : Tr H x d) (r : RelV x v) (hP : H P = some (.tbl ps)) :
    ∃ Pz : Heap → Prop, PySem.W.KitX X.K v (.type (tyD d)) Pz ∧ (∀ h', KeptBut P s.heap h' → Pz h') ∧ v ≠ .builtin "__main__.__loader__#opaque" := by
  cases t with
  | non =>
    cases (show v = Value.none from r)
    exact ⟨_, PySem.W.kitx_none, fun _ _ => True.intro, fun z => nomatch z⟩
  | bl b =>
    cases (show v = Value.bool b from r)
    exact ⟨_, PySem.W.kitx_bool, fun _ _ => True.intro, fun z => nomatch z⟩
  | int i =>
    obtain ⟨t, q⟩ := (show ∃ t, v = Value.int i t from r)
    cases q
    exact ⟨_, PySem.W.kitx_int, fun _ _ => True.intro, fun z => nomatch z⟩
  | str y =>
    obtain ⟨t, q⟩ := (show ∃ t, v = Value.str y t from r)
    cases q
    exact ⟨_, PySem.W.kitx_str, fun _ _ => True.intro, fun z => nomatch z⟩
  | @lst a xs ds ha _ =>
    cases (show v = Value.ref a from r)
    obtain ⟨_, _, n, _, h1⟩ := (show ObjOk X.prog X.w H s.heap a (.lst xs) from I.hok a _ ha)
    exact ⟨_, PySem.W.kitx_list, fun h' k => ⟨_, k _ _ (ne_of ha hP (by intro z; cases z)) h1, rfl⟩, fun z => nomatch z⟩
  | @tup a xs ds ha _ =>
    cases (show v = Value.ref a from r)
    obtain ⟨_, _, _, o, h1, h2, _⟩ := (show ObjOk X.prog X.w H s.heap a (.tup xs) from I.hok a _ ha)
    exact ⟨_, PySem.W.kitx_tuple, fun h' k => ⟨o, k _ _ (ne_of ha hP (by intro z; cases z)) h1, h2⟩, fun z => nomatch z⟩
  | @dct a kvs es ha _ _ _ =>
    cases (show v = Value.ref a from r)
    obtain ⟨_, _, vs, _, o, es, ep, h1, h2, _⟩ := (show ObjOk X.prog X.w H s.heap a (.dK kvs) from I.hok a _ ha)
    exact ⟨_, PySem.W.kitx_dict, fun h' k => ⟨o, k _ _ (ne_of ha hP (by intro z; cases z)) h1, h2.1⟩, fun z => nomatch z⟩
/-- the scope of a generator expression over pairs -/
structure GenZ (env : Env) (scope : Scope) (xa xb : Str) : Prop where
  kind : scope.kind = .function
  co : scope.isCoroutine = false
  cell : ∀ y ∈ scope.names, y.2 ≠ .cell
  dot : scope.names.lookup (".0" : Str) = some NameKind.local
  la : scope.names.lookup xa = some .local
  lb : scope.names.lookup xb = some .local
  ab : xa ≠ xb
  free : ∀ y ∈ scope.names, y.2 = .free → ∃ c, env.cells.lookup y.1 = some c
/-- the element: of data with ok the truth f, quietly -/
def EltZ (X : Cx) (P : Addr) (scope : Scope) (xa xb : Str) (elt : Expr) (f : PyData → PyData → Bool) (ok : PyData → PyData → Prop) : Prop :=
  ∀ (pins : List (Addr × Obj)) (σ : L2.St) (H1 : Hp) (s1 : Shared) (ps : Array Value) (dx dy : PyData) (vx vy : V) (ux uy : Value) (cenv : Env) (A' : Around) (E' : Value → Shared → Prop) (u : Shared) (m : Str → Option Value),
    L2.Inv X pins σ H1 s1 → H1 P = some (.tbl ps) → Tr H1 vx dx → Tr H1 vy dy → RelV vx ux → RelV vy uy → ok dx dy → A'.handled = none → A'.depth ≤ X.A.depth + 1 → A'.units ≤ X.A.units + 8 → cenv.scope = scope → Qe X.K X.mg cenv m u → m xa = some ux → m xb = some uy → KeptBut P s1.heap u.heap →
    wpAny (model X.prog X.w) A' (eval elt cenv) (fun y u' => y = .bool (f dx dy) ∧ Keeps u u') E' u
/-- a generator g that hands out n truths, ready to be walked -/
def ReadyN (X : Cx) (pins : List (Addr × Obj)) (σ : L2.St) (H1 : Hp) (P : Addr) (n : Nat) (tr : Nat → Bool) (g : Addr) (u : Shared) : Prop :=
  ∃ (fp wr : List Addr) (G : Array GenState → Array GenState → Prop) (F : Nat → Value → Prop) (St : Nat → Shared → Prop),
    WalksS X.prog X.w X.A.in1 g fp wr G n F St ∧ St 0 u ∧ TruthOf X.prog X.w X.A.in1 F tr ∧ ∀ u', Moved wr G u u' → ∃ H2, GxR.Tabbed P H1 H2 ∧ L2.Inv X pins σ H2 u'
def trZ (f : PyData → PyData → Bool) (l : List (PyData × PyData)) (j : Nat) : Bool := match l[j]? with
  | some p => f p.1 p.2
  | none => false
theorem trZ_some {f : PyData → PyData → Bool} {l : List (PyData × PyData)} {j : Nat} {p : PyData × PyData} (h : l[j]? = some p) : trZ f l j = f p.1 p.2 := by
  unfold trZ
  rw [h]
theorem all_trZ (f : PyData → PyData → Bool) (l : List (PyData × PyData)) : (List.range l.length).all (trZ f l) = l.all fun p => f p.1 p.2 := by
  rw [Bool.eq_iff_iff, List.all_eq_true, List.all_eq_true]
  constructor
  · intro h p hp
    obtain ⟨j, hj, e⟩ := List.getElem_of_mem hp
    have q := h j (List.mem_range.mpr hj)
    rw [trZ_some (List.getElem?_eq_getElem hj), e] at q
    exact q
  · intro h j hj
    have hj' := List.mem_range.mp hj
    rw [trZ_some (List.getElem?_eq_getElem hj')]
    exact h _ (List.getElem_mem hj')
theorem vals_back : ∀ {xs : List V} {us : List Value} {i : Nat} {u : Value}, Vals xs us → us[i]? = some u → ∃ x, xs[i]? = some x ∧ RelV x u
  | _, _, _, _, .nil, h => by simp at h
  | _, _, 0, _, .cons r _, h => by
    simp only [List.getElem?_cons_zero, Option.some.injEq] at h
    subst h
    exact ⟨_, rfl, r⟩
  | _, _, i + 1, _, .cons _ t, h => by
    simp only [List.getElem?_cons_succ] at h ⊢
    exact vals_back t h
section
variable {X : Cx} {pins : List (Addr × Obj)} {σ : L2.St} {H : Hp} {s : Shared}
theorem gen_zip {c P : Addr} {elt e1 e2 : Expr} {xa xb : Str} {pa pb pt pz gpos ipos : Pos} {kt : Nat} {scope : Scope} {ta : TA} {k : Nat} {f : PyData → PyData → Bool} {ok : PyData → PyData → Prop} {Q' : Value → Shared → Prop} {R : List PyData → List PyData → Hp → Prop}
    (hr : Room k X.A) (TB : GxR.TabB X.base X.mg c P) (hcode : X.env.code = .ref c) (S : GenZ X.env scope xa xb) (hg : Gl X "zip") (hm : X.mg "zip" = none) (ha : PA X [e1, e2] ta) (hel : EltZ X P scope xa xb elt f ok)
    (hs : ∀ v, genFold (.Call (.Name "zip" pz) [e1, e2] [] ipos) X.env v = pure v) (hst : starEach [e1, e2] X.env = (false, eval e1 X.env) :: starEach [e2] X.env) (hpl : (backTo ipos (starEach [e2] X.env)).any (·.1) = false) (I : L2.Inv X pins σ H s)
    (h : ta σ H fun vs H1 => ∃ (a b : Addr) (xs ys : List V) (ds es : List PyData), vs = [.ref a, .ref b] ∧ H1 a = some (.tup xs) ∧ H1 b = some (.tup ys) ∧ TrAll H1 xs ds ∧ TrAll H1 ys es ∧ (∀ p ∈ ds.zip es, ok p.1 p.2) ∧ GxR.TabG H1 P ∧ R ds es H1)
    (hQ : ∀ ds es H1 g u, R ds es H1 → ReadyN X pins σ H1 P (ds.zip es).length (trZ f (ds.zip es)) g u → Q' (.ref g) u) :
    wpAny (model X.prog X.w) X.A (eval (.GeneratorExp elt [⟨.Tuple [.Name xa pa, .Name xb pb] kt pt, .Call (.Name "zip" pz) [e1, e2] [] ipos, [], 0⟩] scope gpos) X.env) Q' X.xe s := by
  refine wpAny_GeneratorExp_walksQTD hr.hd S.co (closure_ok S.free) S.cell S.dot S.la S.lb S.ab S.kind (by have := hr.dp; omega) ?_ hs
  refine Call_ (ld_blt I hg hm PyProof.Rows.boot_zip (PyProof.Rows.callWith_type1 (thn (ha.run ipos pins s σ H _ I h) fun us s1 ⟨vs, H1, I1, r1, q1⟩ => ?_) hst hpl))
  obtain ⟨a, b, xs, ys, ds, es, rfl, hA, hB, tA, tB, hok, ⟨ps, hP, ht⟩, q1⟩ := q1
  obtain ⟨u1, u2, rfl, ra, rb⟩ := vals2 r1
  cases ra
  cases rb
  obtain ⟨its, rv, p1, _⟩ := I1.tuple (SqT.of hA)
  obtain ⟨its2, rv2, p2, _⟩ := I1.tuple (SqT.of hB)
  have a9 : a < s1.heap.objs.size := let ⟨_, e, _⟩ := p1; Heap.lt_size e
  have b9 : b < s1.heap.objs.size := let ⟨_, e, _⟩ := p2; Heap.lt_size e
  have hPs : s1.heap.get? P = some { cls := .none, data := .fields ps } := I1.hok P _ hP
  have hP9 : P < s1.heap.objs.size := Heap.lt_size hPs
  refine RZ.call_zipT (show s1.heap.IsTuple a its.toArray from p1) (show s1.heap.IsTuple b its2.toArray from p2) fun hz z1 z2 z3 z4 z5 zsz zk => wpAny_pyIter_zip z1 ?_
  generalize hn : s1.heap.objs.size = n at a9 b9 hP9 z1 z2 z3 z4 z5 zsz
  have sep : ZipSep2 (n + 4) (n + 2) (n + 3) n (n + 1) [n, a] [n + 1, b] := zip_sep (PySem.W.ktu_apart n a b a9 b9)
  have na : a ≠ n := Nat.ne_of_lt a9
  have nb : b ≠ n + 1 := Nat.ne_of_lt (Nat.lt_succ_of_lt b9)
  have Wk : ∀ A' : Around, A'.handled = none → WalksU X.prog X.w A' (n + 4) _ _ _ _ _ _ := fun A' hA' => (WalksT.zipD2 sep (drawsTup (A := A'.in1) hA' n a na its.toArray) (drawsTup (A := A'.in1) hA' (n + 1) b nb its2.toArray)).toU
  have hPz : hz.get? P = some { cls := .none, data := .fields ps } := zk _ _ hPs
  have cd : PySem.W.CodeHd hz c P := TB.code.keeps fun b u e => zk _ _ (I1.bk b u e)
  have limz : hz.NoLimit := I1.nolimit.keeps zk
  have l1 := rv.length
  have l2 := rv2.length
  have l3 := tA.length
  have l4 := tB.length
  have hnn : min its.toArray.size its2.toArray.size = (ds.zip es).length := by simp [List.length_zip]; omega
  have notP : ∀ b o, X.base.get? b = some o → b ≠ P := fun b o e z => by
    have q := (I1.bs b o e).2
    rw [z, hP] at q
    cases q
  have cont : ∀ (code : Value) (h3 : Heap) (tk : Nat) (ps' : Array Value), Heap.ExtBut P hz h3 → hz.objs.size ≤ h3.objs.size → h3.get? P = some { cls := .none, data := .fields ps' } → (∃ more, ps' = ps ++ more) → TriplesOk ps'.toList →
      wpAny (model X.prog X.w) X.A (builtinsFor X.env.globals X.env.builtins) (fun bi s4 =>
        ∃ Ia fp wr n0 Pt St0 Mid pz F, Value.ref (n + 4) = .ref Ia ∧ (∀ A' : Around, A'.handled = none → WalksU X.prog X.w A' Ia fp wr n0 Pt St0 Mid) ∧ (∀ i vals, Pt i vals → ∃ va vb, vals = #[va, vb]) ∧ St0 0 s4.heap ∧ (∀ b ∈ fp, b < s4.heap.objs.size) ∧ s4.heap.NoLimit ∧ cStatics ∉ wr ∧
          (∀ href : Heap, (∀ b o, s4.heap.get? b = some o → href.get? b = some o) →
            QuietGenTD X.prog X.w (genEnv scope (cloFrom X.env.cells scope.names []) s4.heap.objs.size code bi X.env) xa xb [] elt (List.range s4.heap.objs.size) wr Pt pz F href (X.A.depth + 1) (X.A.units + 8)) ∧
          (∀ g h5 tk gs, gs.bare = true → s4.heap.objs.size < g → h5.objs.size = g + 1 → (∀ b o, s4.heap.get? b = some o → h5.get? b = some o) →
            WalksS X.prog X.w X.A.in4 g (g :: s4.heap.objs.size :: List.range s4.heap.objs.size) (s4.heap.objs.size :: wr) (GenOnlyQ s4.gens.size) (passing pz n0 0).length
              (fun j y => ∃ i, (passing pz n0 0)[j]? = some i ∧ F i y) (GenAt X.prog X.w X.A.in4 g s4.gens.size s4.heap.objs.size (List.range s4.heap.objs.size) wr pz n0 F) →
            GenAt X.prog X.w X.A.in4 g s4.gens.size s4.heap.objs.size (List.range s4.heap.objs.size) wr pz n0 F 0 { s4 with gens := s4.gens.push gs, toks := tk, heap := h5 } →
            Q' (.ref g) { s4 with gens := s4.gens.push gs, toks := tk, heap := h5 })) X.xe { s1 with heap := h3, toks := tk } := by
    intro code h3 tk ps' hx hsz hP3 hmore ht3
    obtain ⟨bm, ob, g1, g2, g3, g4, g5, g6, g7, g8⟩ := TB.bm
    have kept3 : KeptBut P s1.heap h3 := fun b u hb e => hx b u hb (zk _ _ e)
    have hcP : cStatics ≠ P := fun e => by
      obtain ⟨_, hns, _⟩ := I1.nolimit
      obtain ⟨o', es', ep, ho, hd, _⟩ := hns
      rw [e, hPs] at ho
      cases ho
      cases hd
    have hcl : cStatics < s1.heap.objs.size := let ⟨_, hns, _⟩ := I1.nolimit; hns.lt
    have up : ∀ {q : Addr} {o : Obj}, n ≤ q → hz.get? q = some o → h3.get? q = some o := fun {q o} hq e => hx q o (fun z => by rw [z] at hq; exact absurd hP9 (Nat.not_lt.mpr hq)) e
    refine wpAny_builtinsFor (m := X.mg) (by rw [I1.ok.glob]; exact ((I1.mod.glob.keeps I1.bk).keeps zk).extBut hx TB.gP) g1 g2 (kept3 _ _ g4 (I1.bk _ _ g5)) g6 g7 g8 ?_
    refine ⟨n + 4, _, _, _, _, _, _, (fun _ => true), (fun i y => ∃ p, (ds.zip es)[i]? = some p ∧ y = .bool (f p.1 p.2)), rfl, Wk, ?_, ?_, ?_, limz.extBut hx hcP, ?_, ?_, ?_⟩
    · rintro i vals ⟨x1, x2, _, _, e⟩
      exact ⟨x1, x2, e⟩
    · refine ⟨up (by omega) z1, up (by omega) z2, ⟨_, _, up (by omega) z3⟩, ⟨?_, ?_⟩, ?_, ?_⟩
      · exact z4.at fun o e => up (Nat.le_refl _) e
      · obtain ⟨o, e, r⟩ := p1
        exact ⟨o, kept3 _ _ (ne_of hA hP (by intro z; cases z)) e, r⟩
      · exact z5.at fun o e => up (by omega) e
      · obtain ⟨o, e, r⟩ := p2
        exact ⟨o, kept3 _ _ (ne_of hB hP (by intro z; cases z)) e, r⟩
    · intro q hq
      have lt9 : ∀ {q : Addr} {o : Obj}, hz.get? q = some o → q < h3.objs.size := fun e => Nat.lt_of_lt_of_le (Heap.lt_size e) hsz
      simp only [List.cons_append, List.nil_append, List.mem_cons, List.not_mem_nil, or_false] at hq
      rcases hq with e | e | e | e | e | e | e
      · rw [e]; exact lt9 z1
      · rw [e]; exact lt9 z2
      · rw [e]; exact lt9 z3
      · rw [e]; obtain ⟨_, y, _⟩ := z4; exact lt9 y
      · rw [e]; obtain ⟨_, y, _⟩ := p1; exact lt9 (zk _ _ y)
      · rw [e]; obtain ⟨_, y, _⟩ := z5; exact lt9 y
      · rw [e]; obtain ⟨_, y, _⟩ := p2; exact lt9 (zk _ _ y)
    · rw [hn] at hcl
      exact out4 hcl
    · intro href hhref
      refine ⟨fun A' E' i va vb u m hA' _ _ _ _ _ _ _ => ?_, fun A' E' i va vb u m hA' hdp hun hPv _ hns hma hmb hkp => ?_⟩
      · simp only [List.forIn_nil]
        exact wpAny_pure ⟨rfl, GxR.keeps_refl _⟩
      · obtain ⟨x1, x2, i1, i2, e⟩ := hPv
        have e' : va = x1 ∧ vb = x2 := by simpa using congrArg Array.toList e
        obtain ⟨rfl, rfl⟩ := e'
        obtain ⟨vx, hvx, rx⟩ := vals_back rv (show its[i]? = some va by simpa using i1)
        obtain ⟨vy, hvy, ry⟩ := vals_back rv2 (show its2[i]? = some vb by simpa using i2)
        obtain ⟨dx, hdx, tx⟩ := tA.get hvx
        obtain ⟨dy, hdy, ty⟩ := tB.get hvy
        have hz2 : (ds.zip es)[i]? = some (dx, dy) := by simp [List.getElem?_zip_eq_some, hdx, hdy]
        have kb : KeptBut P s1.heap u.heap := fun q o hq e => by
          have hlt : q < s1.heap.objs.size := Heap.lt_size e
          rw [hn] at hlt
          refine hkp q (List.mem_range.mpr ?_) (out4 hlt) o (hhref q o (kept3 q o hq e))
          exact Nat.lt_of_lt_of_le (Heap.lt_size (zk _ _ e)) hsz
        have bk : ∀ q o, X.base.get? q = some o → u.heap.get? q = some o := fun q o e => kb q o (notP q o e) (I1.bk q o e)
        have qe : Qe X.K X.mg (genEnv scope (cloFrom X.env.cells scope.names []) h3.objs.size code builtinsNs X.env) m u :=
          ⟨S.kind, I1.ok.glob, rfl, hns, I1.mod.kin.keeps bk, I1.mod.glob.keeps bk, let ⟨mb, y1, y2⟩ := I1.mod.blt; ⟨mb, y1.keeps bk, y2⟩, I1.mod.nolimit.keeps bk⟩
        exact thn (hel pins σ H1 s1 ps dx dy vx vy va vb _ A' E' u m I1 hP tx ty rx ry (hok (dx, dy) (List.mem_of_getElem? hz2)) hA' hdp hun rfl qe hma hmb kb) fun y u' r => ⟨⟨_, hz2, r.1⟩, r.2⟩
    · intro g h5 tk5 gs hgb hag hsz5 hk5 W5 hat
      simp only [GxR.passing_true, List.length_range] at W5
      rw [hnn] at W5 hat
      refine hQ ds es H1 g _ q1 ⟨_, _, _, _, _, W5.in4_1, hat, ?_, fun u' hm => ?_⟩
      · intro j y sj Qj Ej hy hQj
        obtain ⟨i, hij, p, hp, rfl⟩ := hy
        obtain ⟨hj, ej⟩ := List.getElem?_eq_some_iff.mp hij
        rw [List.getElem_range] at ej
        subst ej
        have hQ2 : Qj (trZ f (ds.zip es) j) sj := hQj
        rw [trZ_some hp] at hQ2
        exact wpAny_truthy_bool hQ2
      · obtain ⟨more, em⟩ := hmore
        have nwr : ∀ q o, s1.heap.get? q = some o → q ∉ h3.objs.size :: [n + 4, n + 3, n, n + 1] := fun q o e hb => by
          have hl : q < s1.heap.objs.size := Heap.lt_size e
          rw [hn] at hl
          rcases List.mem_cons.mp hb with z | z
          · have := Heap.lt_size (zk _ _ e)
            rw [z] at this
            exact absurd (Nat.lt_of_lt_of_le this hsz) (Nat.lt_irrefl _)
          · exact out4 hl z
        have J := GxR.inv_tab (more := more) (h' := u'.heap) (g' := u'.gens) (d' := u'.drawn) (t' := u'.toks) I1 hP (fun q o hb e => hm.heap q o (nwr q o e) (hk5 q o (kept3 q o hb e)))
          (by rw [← em]; exact hm.heap P _ (nwr P _ hPs) (hk5 P _ hP3)) (AllBare.movedS (I1.bare.push hgb) hm)
        rw [GxR.sh_eta s1 u' hm.os] at J
        exact ⟨upd H1 P (.tbl (ps ++ more)), ⟨⟨ps ++ more, upd_same, by rw [← em]; exact ht3⟩, fun b hb => upd_ne hb⟩, J⟩
  refine ⟨limz, ?_⟩
  cases hf : codeAmong gpos ps.toList with
  | none =>
    refine wpAny_genexprCodeX hcode (cd.code hPz ht) (cd.tab hPz) hf fun c' h' tk hx hge hlt hco' _ htab' _ => ?_
    obtain ⟨o1, vs, f1, tf, fl, tg, inF, tx, tt, op, _, _, _, _, _, _, _, _, _, htr, _⟩ := hco'
    exact cont _ h' tk _ hx (Nat.le_trans hge (Nat.le_of_lt hlt)) htab'.2 ⟨_, rfl⟩ htr
  | some cv =>
    refine wpAny_genexprCode_hit hcode (cd.code hPz ht) hf ?_
    exact cont cv hz s1.toks ps (Heap.ExtBut.refl _ _) (Nat.le_refl _) hPz ⟨#[], by simp⟩ ht
end
end Pk
end
/-! are_numbers. -/
namespace Pk
open PySem PySem.Spec PyProof.Rows L2
section
variable {X : Cx}
/-- all(test for x, y in zip(e1, e2)) -/
def tAllZ (P : Addr) (f : PyData → PyData → Bool) (ok : PyData → PyData → Prop) (ta : TA) : TE := fun σ H Q => ta σ H fun vs H1 => ∃ (a b : Addr) (xs ys : List V) (ds es : List PyData), vs = [.ref a, .ref b] ∧ H1 a = some (.tup xs) ∧ H1 b = some (.tup ys) ∧ TrAll H1 xs ds ∧ TrAll H1 ys es ∧ (∀ p ∈ ds.zip es, ok p.1 p.2) ∧ GxR.TabG H1 P ∧
  ∀ H2, GxR.Tabbed P H1 H2 → Q (.bl ((ds.zip es).all fun p => f p.1 p.2)) H2
theorem pe_allZ {c P : Addr} {elt e1 e2 : Expr} {xa xb : Str} {pa pb pt pz gpos ipos p pos : Pos} {kt : Nat} {scope : Scope} {ta : TA} {k : Nat} {f : PyData → PyData → Bool} {ok : PyData → PyData → Prop}
    (hr : Room k X.A) (hgA : Gl X "all") (hmA : X.mg "all" = none) (hb : bootBuiltins "all" = some (.builtin "all")) (TB : GxR.TabB X.base X.mg c P) (hcode : X.env.code = .ref c) (S : GenZ X.env scope xa xb) (hg : Gl X "zip") (hm : X.mg "zip" = none) (ha : PA X [e1, e2] ta) (hel : EltZ X P scope xa xb elt f ok)
    (hs : ∀ v, genFold (.Call (.Name "zip" pz) [e1, e2] [] ipos) X.env v = pure v) (hst : starEach [e1, e2] X.env = (false, eval e1 X.env) :: starEach [e2] X.env := by rfl) (hpl : (backTo ipos (starEach [e2] X.env)).any (·.1) = false := by rfl)
    (he : starEach [.GeneratorExp elt [⟨.Tuple [.Name xa pa, .Name xb pb] kt pt, .Call (.Name "zip" pz) [e1, e2] [] ipos, [], 0⟩] scope gpos] X.env = (false, eval (.GeneratorExp elt [⟨.Tuple [.Name xa pa, .Name xb pb] kt pt, .Call (.Name "zip" pz) [e1, e2] [] ipos, [], 0⟩] scope gpos) X.env) :: starEach [] X.env := by rfl) :
    PE X (.Call (.Name "all" p) [.GeneratorExp elt [⟨.Tuple [.Name xa pa, .Name xb pb] kt pt, .Call (.Name "zip" pz) [e1, e2] [] ipos, [], 0⟩] scope gpos] [] pos) (tAllZ P f ok ta) := by
  refine ⟨fun pins s σ H Q I h => wpAny_Call_Name_kw (ld_blt I hgA hmA hb ?_)⟩
  refine PyProof.Rows.callWith_builtin1 ?_ he (by rfl)
  rw [he]
  show wpAny _ _ (spliced ((false, eval (.GeneratorExp elt [⟨.Tuple [.Name xa pa, .Name xb pb] kt pt, .Call (.Name "zip" pz) [e1, e2] [] ipos, [], 0⟩] scope gpos) X.env) :: backTo pos (starEach [] X.env))) _ _ s
  refine Calls.spliced_cons (gen_zip (R := fun ds es H1 => ∀ H2, GxR.Tabbed P H1 H2 → Q (.bl ((ds.zip es).all fun p => f p.1 p.2)) H2) hr TB hcode S hg hm ha hel hs hst hpl I h fun ds es H1 g u hR hG => Calls.spliced_nil ?_)
  obtain ⟨fp, wr, G, F, St, W, h0, htr, hI⟩ := hG
  refine call_all_walkS (W.self 0 _ _ _ h0 ⟨g, fp, wr, G, _, F, St, _, rfl, W, h0, htr, fun u' hmv => ?_⟩)
  obtain ⟨H2, hT, J⟩ := hI u' hmv
  refine ⟨.bl _, H2, J, rfl, ?_⟩
  rw [all_trZ]
  exact hR H2 hT
end
/-- a number of a dial's span -/
def numD : PyData → PyData → Bool
  | .tuple [_, .int lo, .int hi, _, _, _], d => wholeD lo hi d
  | _, _ => false
def spanOk (d _e : PyData) : Prop := ∃ n lo hi w u v, d = .tuple [n, .int lo, .int hi, w, u, v]
/-- numbers of these dials -/
def numsD (ds : List PyData) : PyData → Bool
  | .tuple es => decide (es.length = ds.length) && ((ds.zip es).all fun p => numD p.1 p.2)
  | _ => false
def scNum : Scope := { kind := .function, names := [((".0" : Str), NameKind.local), (("dial" : Str), NameKind.local), (("number" : Str), NameKind.local), (("is_whole" : Str), NameKind.globalImplicit)], isGenerator := true, isCoroutine := false }
theorem gzNum (env : Env) : GenZ env scNum "dial" "number" := by
  refine ⟨rfl, rfl, by decide +kernel, rfl, rfl, rfl, by decide, fun y hy e => ?_⟩
  have h : ∀ y ∈ scNum.names, y.2 ≠ .free := by decide +kernel
  exact absurd e (h y hy)
/-- x[j], x a local that holds a tuple -/
theorem q_ix {P : Program} {w : World} {K : PySem.W.Frag} {mg : Str → Option Value} {A : Around} {E : Value → Shared → Prop} {env : Env} {m : Str → Option Value} {s : Shared} {Q : Value → Shared → Prop} {x : Str} {p1 p2 pos : Pos} {kk : Nat} {a : Addr} {its : List Value} {i : Int} {j : Nat} {v : Value}
    (q : Qe K mg env m s) (hl : env.scope.names.lookup x = some .local) (hm : m x = some (.ref a)) (ht : IsTup s.heap a its.toArray) (hi0 : 0 ≤ i) (hi1 : i < 1000) (ej : j = i.toNat) (hj : its[j]? = some v) (h : Q v { s with toks := s.toks + 1 }) (hd : (x == ("__debug__" : Str)) = false := by decide) :
    wpAny (model P w) A (eval (.Subscript (.Name x p1) (.Constant (.int i) kk p2) pos) env) Q E s := by
  subst ej
  refine Subscript_ (q_loc q hl hm (wpAny_Constant_int ?_) hd)
  have hlt : i.toNat < its.length := (List.getElem?_eq_some_iff.mp hj).1
  refine subscriptTail_builtinR (x := v) (show ({ s with toks := s.toks + 1 } : Shared).TypeIs (.ref a) "tuple" from ht.typeIs) slot_tuple_getitem.lookup (getItem_tuple (s := { s with toks := s.toks + 1 }) (j := i.toNat) (Q := fun r s' => r = v ∧ Q r s') ht (by omega) (by omega) ?_ (by simpa using hj) ⟨rfl, h⟩) (by with_unfolding_all rfl)
  rw [List.size_toArray]
  exact seqIx hi0 (by omega)
theorem elt_num {X : Cx} {Pt f : Addr} {fd : FuncData} {p0 p1 p2 p3 p4 p5 p6 p7 p8 : Pos} {k1 k2 : Nat} (F : Fun X.K "is_whole" "is_whole" sWhole f fd) (bG : Binds X.K fd ["thing", "low", "high"] []) (mG : X.mg "is_whole" = some (.ref f)) (kG : PySem.W.keepIn X.K (.ref f) = true) (B : BltH X.mg) (hroom : X.A.depth + 1 < recursionLimit) :
    EltZ X Pt scNum "dial" "number" (.Call (.Name "is_whole" p0) [.Name "number" p1, .Subscript (.Name "dial" p2) (.Constant (.int 1) k1 p3) p4, .Subscript (.Name "dial" p5) (.Constant (.int 2) k2 p6) p7] [] p8) numD spanOk := by
  intro pins σ H1 s1 ps dx dy vx vy ux uy cenv A' E' u m I hP tx ty rx ry hok hh hdp hun hsc qe ma mb kb
  obtain ⟨n, lo, hi, w, u1, u2, rfl⟩ := hok
  cases tx with
  | @tup a xs _ ha al =>
    match xs, al with
    | [x0, _, _, x3, x4, x5], .cons _ (.cons (.int _) (.cons (.int _) (.cons _ (.cons _ (.cons _ .nil))))) =>
      cases (show ux = Value.ref a from rx)
      obtain ⟨its, rv, pt, _⟩ := I.tuple (SqT.of ha)
      have pt' : IsTup u.heap a its.toArray := by
        obtain ⟨o, e, r⟩ := pt
        exact ⟨o, kb _ _ (ne_of ha hP (by intro z; cases z)) e, r⟩
      obtain ⟨v1, e1, r1⟩ := rv.get (i := 1) rfl
      obtain ⟨v2, e2, r2⟩ := rv.get (i := 2) rfl
      obtain ⟨t1, rfl⟩ := (show ∃ t, v1 = Value.int lo t from r1)
      obtain ⟨t2, rfl⟩ := (show ∃ t, v2 = Value.int hi t from r2)
      have sc1 : cenv.scope.names.lookup ("number" : Str) = some .local := by rw [hsc]; rfl
      have sc2 : cenv.scope.names.lookup ("dial" : Str) = some .local := by rw [hsc]; rfl
      have sc3 : cenv.scope.names.lookup ("is_whole" : Str) = some .globalImplicit := by rw [hsc]; rfl
      obtain ⟨Pz, Z, pz, nl⟩ := ty.kitAt I ry hP
      refine wpAny_Call_Name_kw (q_glob qe sc3 mG (PySem.W.callWith_K (h₀ := u.heap) qe.kin kG (Calls.spliced_cons (q_loc qe sc1 mb (Calls.spliced_cons (q_ix (a := a) (its := its) (j := 1) qe sc2 ma pt' (by decide) (by decide) rfl e1 (Calls.spliced_cons (q_ix (a := a) (its := its) (j := 2) (qe.tok _) sc2 ma pt' (by decide) (by decide) rfl e2 (Calls.spliced_nil ?_))))))) (by rfl) (by rfl)))
      refine ⟨qe.kin, wpAny_call (codeAny_mono (quietWhole F bG B (s := { u with toks := u.toks + 1 + 1 }) qe.kin qe.gns qe.bns qe.noL (by omega) Z (fun h' k => pz h' fun b o hb e => k b o (kb b o hb e)) nl (fun i e => ?_)) fun r s' hr => ?_)⟩
      · subst e
        cases ty with
        | int i => exact ry
      · obtain ⟨rfl, h', tk, e, hk⟩ := hr
        exact ⟨rfl, h', tk, by rw [e], hk⟩
end Pk
/-! are_numbers, check_house. -/
namespace Pk
open PySem L2
def spAreN (Pt : Addr) : Sp := fun vs H Q _ => ∃ (h : Addr) (x : V) (ds rs : List PyData) (d : PyData), vs = [.ref h, x] ∧ Tr H (.ref h) (.tuple [.tuple ds, .tuple rs]) ∧ ds.length ≤ 12 ∧ (∀ e ∈ ds, DialG e) ∧ Tr H x d ∧ GxR.TabG H Pt ∧ ∀ H', Gr Pt H H' → Q (.bl (numsD ds d)) H'
theorem dial_span {d e : PyData} (h : DialG d) : spanOk d e := by
  obtain ⟨nm, way, lo, hi, up, dn, rfl, _⟩ := h
  exact ⟨_, _, _, _, _, _, rfl⟩
theorem nums_not {ds : List PyData} {d : PyData} (h : tupD (ds.length : Int) (ds.length : Int) d = false) : numsD ds d = false := by
  cases d with
  | tuple es =>
    show (decide (es.length = ds.length) && _) = false
    rw [decide_eq_false (fun e => ?_)]
    · rfl
    · rw [tupD, e, decide_eq_true (Int.le_refl _)] at h
      cases h
  | _ => rfl
theorem nums_tup {ds : List PyData} {d : PyData} (h : tupD (ds.length : Int) (ds.length : Int) d = true) : ∃ es, d = .tuple es ∧ es.length = ds.length ∧ numsD ds d = (ds.zip es).all fun p => numD p.1 p.2 := by
  cases d with
  | tuple es =>
    rw [tupD, Bool.and_eq_true, decide_eq_true_eq, decide_eq_true_eq] at h
    have e : es.length = ds.length := by omega
    refine ⟨es, rfl, e, ?_⟩
    show (decide (es.length = ds.length) && _) = _
    rw [decide_eq_true e]
    rfl
  | _ => cases h
section
variable {P : Program} {w : World} {K : PySem.W.Frag} {mg : Str → Option Value} {base : Heap} {Pt : Addr}
end
end Pk
section
set_option maxHeartbeats 2000000
/-! dict(zip(a, b)), a a list, b a tuple; any two iterators that draw. -/
namespace Pk
open PySem
section
variable {prog : Program} {w : World} {A : Around} {E : Value → Shared → Prop} {s : Shared} {z TI TO i1 i2 T : Addr} {fp1 fp2 : List Addr} {n1 n2 i : Nat} {P1 P2 : Nat → Value → Prop} {St1 St2 : Nat → Heap → Prop} {f : Bool} {oT : Obj}
theorem heldItem {Q : Value → Shared → Prop} (S : ZipSep2 z TI TO i1 i2 fp1 fp2) (D1 : Draws prog w A i1 fp1 n1 P1 St1) (D2 : Draws prog w A i2 fp2 n2 P2 St2) (hz : IsZipHeld s.heap z TI TO T f) (hT : s.heap.get? T = some oT) (hI : IsPair s.heap TI (.ref i1) (.ref i2))
    (st1 : St1 i s.heap) (st2 : St2 i s.heap) (l1 : i < n1) (l2 : i < n2)
    (k : ∀ x1 x2 h' tk, P1 i x1 → P2 i x2 → IsZipHeld h' z TI TO T true → St1 (i + 1) h' → St2 (i + 1) h' → IsPair h' s.heap.objs.size x1 x2 → (∀ c o, c ≠ z → c ≠ i1 → c ≠ i2 → s.heap.get? c = some o → h'.get? c = some o) → Q (.ref s.heap.objs.size) { s with heap := h', toks := tk }) :
    wpAny (model prog w) A (Builtin.«zip.__next__» ⟨[.ref z], []⟩) (fun fin s' => ∃ v, fin = .done (.ret v) ∧ Q v s') E s := by
  show wpAny _ _ (field (.ref z) 2 >>= _) _ _ _
  refine wpAny_bind (wpAny_field hz rfl (x := .bool false) rfl ?_)
  show wpAny _ _ (field (.ref z) 3 >>= _) _ _ _
  refine wpAny_bind (wpAny_field hz rfl (x := .ref TI) rfl (wpAny_bind (wpAny_seqItems hI rfl ?_)))
  show wpAny _ _ (Builtin.SmallTypes.ownedTupleIsFree (.ref z) >>= _) _ _ _
  refine wpAny_bind (wpAny_tupleHeld_zip hz hT fun g1 y1 e1 => ?_)
  simp only [Bool.false_eq_true, if_false]
  refine wpAny_bind ?_
  rw [← Array.forIn_toList]
  simp only [List.forIn_cons, List.forIn_nil]
  refine wpAny_bind (wpAny_bind (wpAny_holding ?_))
  show wpAny _ _ (Builtin.SmallTypes.nextOf (.ref i1) >>= _) _ _ _
  refine wpAny_bind (D1.item i { s with heap := g1 } _ _ l1 (D1.over st1 e1 S.zf1) fun x1 g2 t2 p1 d1 e2 => wpAny_pure (wpAny_pure ?_))
  refine wpAny_bind (wpAny_bind (wpAny_holding ?_))
  show wpAny _ _ (Builtin.SmallTypes.nextOf (.ref i2) >>= _) _ _ _
  have d2 : St2 i g2 := D2.over (D2.over st2 e1 S.zf2) e2 S.sep1_2
  refine wpAny_bind (D2.item i { s with heap := g2, toks := t2 } _ _ l2 d2 fun x2 g3 t3 p2 d3 e3 => wpAny_pure (wpAny_pure (wpAny_pure ?_)))
  show wpAny _ _ (newTuple [x1, x2] >>= _) _ _ _
  refine wpAny_bind (wpAny_newTuple (wpAny_pure ⟨_, rfl, ?_⟩))
  have sz : g3.objs.size = s.heap.objs.size := by rw [e3.1, e2.1, e1.1]
  have y3 : IsZipHeld g3 z TI TO T true := e3.extBut _ _ S.zi2 (e2.extBut _ _ S.zi1 y1)
  have d4 : St1 (i + 1) g3 := D1.over d1 e3 S.sep2_1
  have hp : IsPair (g3.push { cls := .type "tuple", data := .seq #[x1, x2] }) g3.objs.size x1 x2 := Heap.get?_push_size _ rfl
  show Q (.ref g3.objs.size) _
  rw [sz] at hp ⊢
  exact k x1 x2 _ _ p1 p2 (Heap.get?_push_of_some _ y3) (D1.frame _ _ _ d4 fun b _ o q => Heap.get?_push_of_some _ q) (D2.frame _ _ _ d3 fun b _ o q => Heap.get?_push_of_some _ q) hp fun c o c1 c2 c3 q => Heap.get?_push_of_some _ (e3.extBut _ _ c3 (e2.extBut _ _ c2 (e1.extBut _ _ c1 q)))
theorem heldEnd {Q : Fin → Shared → Prop} (S : ZipSep2 z TI TO i1 i2 fp1 fp2) (D1 : Draws prog w A i1 fp1 n1 P1 St1) (D2 : Draws prog w A i2 fp2 n2 P2 St2) (hz : IsZipHeld s.heap z TI TO T f) (hT : s.heap.get? T = some oT) (hI : IsPair s.heap TI (.ref i1) (.ref i2))
    (st1 : St1 i s.heap) (st2 : St2 i s.heap) (hl1 : i ≤ n1) (hl2 : i ≤ n2) (he : i = n1 ∨ i = n2)
    (k : ∀ h' tk e, (∀ c o, c ≠ z → c ≠ i1 → c ≠ i2 → s.heap.get? c = some o → h'.get? c = some o) → (∃ o, h'.get? e = some o ∧ o.cls = .type "StopIteration") → E (.ref e) { s with heap := h', toks := tk }) :
    wpAny (model prog w) A (Builtin.«zip.__next__» ⟨[.ref z], []⟩) Q E s := by
  show wpAny _ _ (field (.ref z) 2 >>= _) _ _ _
  refine wpAny_bind (wpAny_field hz rfl (x := .bool false) rfl ?_)
  show wpAny _ _ (field (.ref z) 3 >>= _) _ _ _
  refine wpAny_bind (wpAny_field hz rfl (x := .ref TI) rfl (wpAny_bind (wpAny_seqItems hI rfl ?_)))
  show wpAny _ _ (Builtin.SmallTypes.ownedTupleIsFree (.ref z) >>= _) _ _ _
  refine wpAny_bind (wpAny_tupleHeld_zip hz hT fun g1 y1 e1 => ?_)
  simp only [Bool.false_eq_true, if_false]
  refine wpAny_bind ?_
  rw [← Array.forIn_toList]
  simp only [List.forIn_cons, List.forIn_nil]
  refine wpAny_bind (wpAny_bind (wpAny_holding ?_))
  show wpAny _ _ (Builtin.SmallTypes.nextOf (.ref i1) >>= _) _ _ _
  by_cases c1 : i = n1
  · subst c1
    refine wpAny_bind (D1.done { s with heap := g1 } _ _ (D1.over st1 e1 S.zf1) fun g2 e x2 ho => ?_)
    exact k g2 s.toks e (fun c o a1 a2 _ q => x2 _ _ a2 (e1.extBut _ _ a1 q)) ho
  · have c2 : i = n2 := by rcases he with q | q; exact absurd q c1; exact q
    refine wpAny_bind (D1.item i { s with heap := g1 } _ _ (by omega) (D1.over st1 e1 S.zf1) fun x1 g2 t2 p1 d1 e2 => wpAny_pure (wpAny_pure ?_))
    refine wpAny_bind (wpAny_bind (wpAny_holding ?_))
    show wpAny _ _ (Builtin.SmallTypes.nextOf (.ref i2) >>= _) _ _ _
    have d2 : St2 i g2 := D2.over (D2.over st2 e1 S.zf2) e2 S.sep1_2
    subst c2
    refine wpAny_bind (D2.done { s with heap := g2, toks := t2 } _ _ d2 fun g3 e x3 ho => ?_)
    exact k g3 t2 e (fun c o a1 a2 a3 q => x3 _ _ a3 (e2.extBut _ _ a2 (e1.extBut _ _ a1 q))) ho
end
/-- a zip of two iterators that draw, as what dict() is made of -/
theorem pairZip {prog : Program} {w : World} {z TI TO i1 i2 : Addr} {fp1 fp2 : List Addr} {n1 n2 : Nat} {P1 P2 : Nat → Value → Prop} {St1 St2 : Nat → Heap → Prop} (S : ZipSep2 z TI TO i1 i2 fp1 fp2)
    (D1 : ∀ A : Around, A.handled = none → Draws prog w A i1 fp1 n1 P1 St1) (D2 : ∀ A : Around, A.handled = none → Draws prog w A i2 fp2 n2 P2 St2) (L1 : ∀ h, St1 0 h → ∀ b ∈ fp1, ∃ o, h.get? b = some o) (L2 : ∀ h, St2 0 h → ∀ b ∈ fp2, ∃ o, h.get? b = some o) :
    PairArg prog w "zip" z (z :: TI :: TO :: (fp1 ++ fp2)) [z, TO, i1, i2] (min n1 n2) (fun i k v => P1 i k ∧ P2 i v) (fun h => IsZip h z TI TO .none ∧ IsPair h TI (.ref i1) (.ref i2) ∧ (∃ a b, IsPair h TO a b) ∧ St1 0 h ∧ St2 0 h) where
  type := fun s ok => ⟨_, ok.1, rfl⟩
  notDict := by decide
  keep := fun h h' ok hk => by
    obtain ⟨hz, hI, ⟨a, b, hO⟩, s1, s2⟩ := ok
    exact ⟨hk _ _ hz, hk _ _ hI, ⟨a, b, hk _ _ hO⟩, (D1 callerA rfl).frame _ _ _ s1 fun b _ o e => hk b o e, (D2 callerA rfl).frame _ _ _ s2 fun b _ o e => hk b o e⟩
  there := fun h ok b hb => by
    obtain ⟨hz, hI, ⟨a, c, hO⟩, s1, s2⟩ := ok
    rcases List.mem_cons.mp hb with e | hb
    · rw [e]; exact ⟨_, hz⟩
    rcases List.mem_cons.mp hb with e | hb
    · rw [e]; exact ⟨_, hI⟩
    rcases List.mem_cons.mp hb with e | hb
    · rw [e]; exact ⟨_, hO⟩
    rcases List.mem_append.mp hb with hb | hb
    · exact L1 h s1 b hb
    · exact L2 h s2 b hb
  sub := fun b hb => by
    simp only [List.mem_cons, List.not_mem_nil, or_false] at hb
    rcases hb with rfl | rfl | rfl | rfl
    · exact List.mem_cons_self
    · exact List.mem_cons_of_mem _ (List.mem_cons_of_mem _ List.mem_cons_self)
    · exact List.mem_cons_of_mem _ (List.mem_cons_of_mem _ (List.mem_cons_of_mem _ (List.mem_append_left _ S.mem1)))
    · exact List.mem_cons_of_mem _ (List.mem_cons_of_mem _ (List.mem_cons_of_mem _ (List.mem_append_right _ S.mem2)))
  noKeys := fun A s Q E hA ok h => getAttrOr_miss_zip ok.1 rfl rfl rfl zip_no_keys (by decide +kernel) hA h
  iter := fun A s d Q E hA ok hd hdf h => by
    obtain ⟨hz, hI, ⟨a, b, hO⟩, s1, s2⟩ := ok
    have dz : d ≠ z := fun e => hdf (by rw [e]; exact List.mem_cons_self)
    have dI : d ≠ TI := fun e => hdf (by rw [e]; exact List.mem_cons_of_mem _ List.mem_cons_self)
    have dO : d ≠ TO := fun e => hdf (by rw [e]; exact List.mem_cons_of_mem _ (List.mem_cons_of_mem _ List.mem_cons_self))
    have d1 : ∀ b ∈ fp1, b ≠ d := fun b hb e => hdf (List.mem_cons_of_mem _ (List.mem_cons_of_mem _ (List.mem_cons_of_mem _ (List.mem_append_left _ (e ▸ hb)))))
    have d2 : ∀ b ∈ fp2, b ≠ d := fun b hb e => hdf (List.mem_cons_of_mem _ (List.mem_cons_of_mem _ (List.mem_cons_of_mem _ (List.mem_append_right _ (e ▸ hb)))))
    refine wpAny_pyIter_zip hz (h z [z, TO, i1, i2] (fun i g => IsPair g TI (.ref i1) (.ref i2) ∧ St1 i g ∧ St2 i g ∧ ((IsZip g z TI TO .none ∧ ∃ a b, IsPair g TO a b) ∨ ∃ T f oT, IsZipHeld g z TI TO T f ∧ g.get? T = some oT ∧ T ≠ z ∧ T ≠ i1 ∧ T ≠ i2 ∧ T ≠ d)) s.heap s.toks ?_ ⟨hI, s1, s2, .inl ⟨hz, a, b, hO⟩⟩ (fun _ _ e => e) fun b hb => .inl hb)
    refine ⟨fun hm => ?_, fun i g g' st hk => ?_, fun i u Q1 E1 hi st hds hQ => ?_, fun u Q1 E1 st hQ => ?_⟩
    · simp only [List.mem_cons, List.not_mem_nil, or_false] at hm
      rcases hm with e | e | e | e
      · exact dz e
      · exact dO e
      · exact d1 i1 S.mem1 e.symm
      · exact d2 i2 S.mem2 e.symm
    · obtain ⟨hI, s1, s2, hz⟩ := st
      refine ⟨hk _ _ dI.symm hI, (D1 callerA rfl).frame _ _ _ s1 fun b hb o e => hk b o (d1 b hb) e, (D2 callerA rfl).frame _ _ _ s2 fun b hb o e => hk b o (d2 b hb) e, ?_⟩
      rcases hz with ⟨hz, a, b, hO⟩ | ⟨T, f, oT, hz, hT, r1, r2, r3, r4⟩
      · exact .inl ⟨hk _ _ dz.symm hz, a, b, hk _ _ dO.symm hO⟩
      · exact .inr ⟨T, f, oT, hk _ _ dz.symm hz, hk _ _ r4 hT, r1, r2, r3, r4⟩
    · obtain ⟨hI, s1, s2, hz⟩ := st
      have hi1 : i < n1 := by omega
      have hi2 : i < n2 := by omega
      have lt : ∀ {c : Addr} {o : Obj}, u.heap.get? c = some o → u.heap.objs.size ≠ c := fun e => Nat.ne_of_gt (Heap.lt_size e)
      have ne1 : u.heap.objs.size ≠ i1 := let ⟨_, e⟩ := (D1 callerA rfl).live _ _ s1; lt e
      have ne2 : u.heap.objs.size ≠ i2 := let ⟨_, e⟩ := (D2 callerA rfl).live _ _ s2; lt e
      have mem : ∀ {c : Addr}, c ∉ [z, TO, i1, i2] → c ≠ z ∧ c ≠ TO ∧ c ≠ i1 ∧ c ≠ i2 := fun {c} hc => by
        simp only [List.mem_cons, List.not_mem_nil, or_false, not_or] at hc
        exact hc
      rcases hz with ⟨hz, a, b, hO⟩ | ⟨T, f, oT, hz, hT, r1, r2, r3, r4⟩
      · refine wpAny_pyNext_zipD2_item S (D1 A.in1 hA) (D2 A.in1 hA) hz hI hO s1 s2 hi1 hi2 fun x1 x2 g tk p1 p2 a1 a2 a3 a4 a5 a6 hk => ?_
        exact hQ u.heap.objs.size x1 x2 g tk ⟨p1, p2⟩ (.inl ⟨_, a5, rfl, _, rfl⟩) ⟨hk _ _ S.TIz S.TITO S.TIi1 S.TIi2 hI, a3, a4, .inr ⟨_, false, _, a1, a5, lt hz, ne1, ne2, Nat.ne_of_gt hds⟩⟩
          fun c o hc e => let ⟨m1, m2, m3, m4⟩ := mem hc; hk c o m1 m2 m3 m4 e
      · have hTy : u.TypeIs (.ref z) "zip" := ⟨_, hz, rfl⟩
        unfold pyNext
        refine wpAny_bind (wpAny_attempt (wpAny_callSpecial?_slot (name := Str.ofString "__next__") hTy F.slot_zip_next (wpAny_call_entry F.slot_zip_next hTy F.entry_zip_next (heldItem S (D1 A.in1 hA) (D2 A.in1 hA) hz hT hI s1 s2 hi1 hi2 fun x1 x2 g tk p1 p2 a1 a3 a4 a5 hk => wpAny_pure ?_) (F.args_zip_next_1 _))))
        exact hQ u.heap.objs.size x1 x2 g tk ⟨p1, p2⟩ (.inl ⟨_, a5, rfl, _, rfl⟩) ⟨hk _ _ S.TIz S.TIi1 S.TIi2 hI, a3, a4, .inr ⟨T, true, oT, a1, hk _ _ r1 r2 r3 hT, r1, r2, r3, r4⟩⟩
          fun c o hc e => let ⟨m1, m2, m3, m4⟩ := mem hc; hk c o m1 m3 m4 e
    · obtain ⟨hI, s1, s2, hz⟩ := st
      have mem : ∀ {c : Addr}, c ∉ [z, TO, i1, i2] → c ≠ z ∧ c ≠ TO ∧ c ≠ i1 ∧ c ≠ i2 := fun {c} hc => by
        simp only [List.mem_cons, List.not_mem_nil, or_false, not_or] at hc
        exact hc
      rcases hz with ⟨hz, a, b, hO⟩ | ⟨T, f, oT, hz, hT, r1, r2, r3, r4⟩
      · exact wpAny_pyNext_zipD2_end S (D1 A.in1 hA) (D2 A.in1 hA) hz hI hO s1 s2 (by omega) (by omega) (by omega) fun g tk hk => hQ g tk fun c o hc e => let ⟨m1, m2, m3, m4⟩ := mem hc; hk c o m1 m2 m3 m4 e
      · have hTy : u.TypeIs (.ref z) "zip" := ⟨_, hz, rfl⟩
        unfold pyNext
        refine wpAny_bind (wpAny_attempt (wpAny_callSpecial?_slot (name := Str.ofString "__next__") hTy F.slot_zip_next (wpAny_call_entry F.slot_zip_next hTy F.entry_zip_next (heldEnd S (D1 A.in1 hA) (D2 A.in1 hA) hz hT hI s1 s2 (by omega) (by omega) (by omega) fun g tk e hk ho => ?_) (F.args_zip_next_1 _))))
        obtain ⟨o, ho, hc⟩ := ho
        refine wpAny_bind (wpAny_isInstance (T := "StopIteration") (b := true) ⟨o, ho, hc⟩ isSubtype_stop ?_)
        exact wpAny_pure (hQ g tk fun c o hc e => let ⟨m1, m2, m3, m4⟩ := mem hc; hk c o m1 m3 m4 e)
/-! zip(a, b), a a list, b a tuple -/
abbrev mix1 (h : Heap) (a : Addr) : Heap := h.push { cls := .type "list_iterator", data := .fields #[.ref a, .int 0 0] }
abbrev mix2 (h : Heap) (a b : Addr) : Heap := (mix1 h a).push { cls := .type "tuple_iterator", data := .fields #[.ref b, .int 0 0] }
abbrev mix3 (h : Heap) (a b : Addr) : Heap := (mix2 h a b).push { cls := .type "tuple", data := .seq #[.ref h.objs.size, .ref (mix1 h a).objs.size] }
abbrev mix4 (h : Heap) (a b : Addr) : Heap := (mix3 h a b).push { cls := .type "tuple", data := .seq #[.none, .none] }
abbrev mix5 (h : Heap) (a b : Addr) : Heap := (mix4 h a b).push { cls := .type "zip", data := .fields #[.none, .bool false, .bool false, .ref (mix2 h a b).objs.size, .ref (mix3 h a b).objs.size] }
theorem mixNew (a b : Addr) (xs ys : Array Value) : Meets (Builtin.«zip.__new__» ⟨[.type "zip", .ref a, .ref b], []⟩) (fun _ R s => s.heap.IsList a xs ∧ s.heap.IsTuple b ys ∧ R (.ok (.ret (.ref (mix4 s.heap a b).objs.size))) { s with heap := mix5 s.heap a b }) :=
  .of_wp fun prog w A R s h => by
    obtain ⟨hp, g, d, tk, os⟩ := s
    obtain ⟨ha, hb, h⟩ := h
    have hsub := sub_zip
    have hA : Heap.IsList (Shared.heap ⟨hp, g, d, tk, os⟩) a xs := ha
    have hB : Heap.IsTuple (Shared.heap ⟨hp.push { cls := .type "list_iterator", data := .fields #[.ref a, .int 0 0] }, g, d, tk, os⟩) b ys := Heap.IsTuple.push hb _
    wp_walk using wpAny_pyIter_list hA, wpAny_pyIter_tuple hB
    exact ⟨_, rfl, h⟩
theorem callMix {prog : Program} {w : World} {A : Around} {E : Value → Shared → Prop} {s : Shared} {a b : Addr} {xs ys : Array Value} {Q : Value → Shared → Prop} (ha : s.heap.IsList a xs) (hb : s.heap.IsTuple b ys)
    (k : ∀ h', IsZip h' (s.heap.objs.size + 4) (s.heap.objs.size + 2) (s.heap.objs.size + 3) .none → IsPair h' (s.heap.objs.size + 2) (.ref s.heap.objs.size) (.ref (s.heap.objs.size + 1)) → IsPair h' (s.heap.objs.size + 3) .none .none →
      h'.IsListIter s.heap.objs.size a 0 → h'.IsTupleIter (s.heap.objs.size + 1) b 0 → (∀ c o, s.heap.get? c = some o → h'.get? c = some o) → Q (.ref (s.heap.objs.size + 4)) { s with heap := h' }) :
    wpAny (model prog w) A (call (.type "zip") [.ref a, .ref b]) Q E s := by
  refine callType_new F.called_zip (by decide) (F.typeCall_zip_2 _ _) (F.newCall_zip_2 _ _) (fun obj => F.args_object_init_3 obj _ _) F.entry_zip_new (mixNew a b xs ys) ⟨ha, hb, ?_⟩
  have y1 : (mix1 s.heap a).objs.size = s.heap.objs.size + 1 := Heap.size_push ..
  have y2 : (mix2 s.heap a b).objs.size = s.heap.objs.size + 2 := by rw [Heap.size_push, y1]
  have y3 : (mix3 s.heap a b).objs.size = s.heap.objs.size + 3 := by rw [Heap.size_push, y2]
  have y4 : (mix4 s.heap a b).objs.size = s.heap.objs.size + 4 := by rw [Heap.size_push, y3]
  have up : ∀ {h : Heap} {o : Obj} {c : Addr} {u : Obj}, h.get? c = some u → (h.push o).get? c = some u := fun e => Heap.get?_push_of_some _ e
  have g5 : (mix5 s.heap a b).get? (mix4 s.heap a b).objs.size = some _ := Heap.get?_push_size _ rfl
  have g4 : (mix5 s.heap a b).get? (mix3 s.heap a b).objs.size = some _ := up (Heap.get?_push_size _ rfl)
  have g3 : (mix5 s.heap a b).get? (mix2 s.heap a b).objs.size = some _ := up (up (Heap.get?_push_size _ rfl))
  have g2 : (mix5 s.heap a b).get? (mix1 s.heap a).objs.size = some _ := up (up (up (Heap.get?_push_size _ rfl)))
  have g1 : (mix5 s.heap a b).get? s.heap.objs.size = some _ := up (up (up (up (Heap.get?_push_size _ rfl))))
  show _ ∧ _
  rw [y2, y3, y4] at g5
  rw [y1, y2] at g3
  rw [y3] at g4
  rw [y1] at g2
  rw [y4]
  exact ⟨⟨_, g5, rfl⟩, k _ g5 g3 g4 ⟨_, g1, rfl, rfl⟩ ⟨_, g2, rfl, rfl⟩ fun c o e => up (up (up (up (up e))))⟩
end Pk
end
section
set_option maxHeartbeats 2000000
/-! The rule for dict(zip(names, things)). -/
namespace Pk
open PySem PySem.Spec PyProof.Rows L2
def strKv (e : Str × V) : Key × V := (Sum.inr e.1, e.2)
def tDictZ (K : PySem.W.Frag) (ta : TA) : TE := fun σ H Q => ta σ H fun vs H1 => ∃ (a b : Addr) (ss : List Str) (ys : List V), vs = [.ref a, .ref b] ∧ SqL K H1 a (ss.map V.str) ∧ SqT K H1 b ys ∧ ss.length = ys.length ∧ ∀ p, H1 p = none → Q (.ref p) (upd H1 p (.dK (mergeK [] ((ss.zip ys).map strKv))))
theorem kv_zip : ∀ {ss : List Str} {ys : List V} {us ws : List Value}, Vals (ss.map V.str) us → Vals ys ws → ss.length = ys.length →
    ∃ prs : List (Key × Value), KV ((ss.zip ys).map strKv) prs ∧ prs.length = ss.length ∧ ∀ (i : Nat) (u v : Value), us[i]? = some u → ws[i]? = some v → ∃ z t, u = .str z t ∧ prs[i]? = some (Sum.inr z, v)
  | [], [], _, _, .nil, .nil, _ => ⟨[], .nil, rfl, fun i u v h => by simp at h⟩
  | [], _ :: _, _, _, _, _, h => by simp at h
  | _ :: _, [], _, _, _, _, h => by simp at h
  | z :: ss, y :: ys, _, _, .cons r t, .cons q t2, h => by
    obtain ⟨prs, k, l, f⟩ := kv_zip t t2 (by simpa using h)
    obtain ⟨tk, rfl⟩ := (show ∃ t, _ = Value.str z t from r)
    refine ⟨(Sum.inr z, _) :: prs, .cons ⟨rfl, q⟩ k, by simp [l], fun i u v h1 h2 => ?_⟩
    cases i with
    | zero =>
      cases h1
      cases h2
      exact ⟨z, tk, rfl, rfl⟩
    | succ i => exact f i u v h1 h2
theorem pe_dictZ {X : Cx} {e1 e2 : Expr} {ta : TA} {p pz pos ipos : Pos} (hc : X.calm = true) (hgd : Gl X "dict") (hmd : X.mg "dict" = none) (hgz : Gl X "zip") (hmz : X.mg "zip" = none) (ha : PA X [e1, e2] ta)
    (hst : starEach [e1, e2] X.env = (false, eval e1 X.env) :: starEach [e2] X.env := by rfl) (hpl : (backTo ipos (starEach [e2] X.env)).any (·.1) = false := by rfl)
    (hs2 : starEach [.Call (.Name "zip" pz) [e1, e2] [] ipos] X.env = (false, eval (.Call (.Name "zip" pz) [e1, e2] [] ipos) X.env) :: starEach [] X.env := by rfl) :
    PE X (.Call (.Name "dict" p) [.Call (.Name "zip" pz) [e1, e2] [] ipos] [] pos) (tDictZ X.K ta) := by
  refine ⟨fun pins s σ H Q I h => wpAny_Call_Name_kw (ld_blt (u := .type "dict") I hgd hmd (by decide +kernel) ?_)⟩
  refine PyProof.Rows.callWith_type1 ?_ hs2 (by rfl)
  rw [hs2]
  show wpAny _ _ (spliced ((false, eval (.Call (.Name "zip" pz) [e1, e2] [] ipos) X.env) :: backTo pos (starEach [] X.env))) _ _ s
  refine Calls.spliced_cons (Call_ (ld_blt I hgz hmz PyProof.Rows.boot_zip (PyProof.Rows.callWith_type1 (thn (ha.run ipos pins s σ H _ I h) fun us s1 ⟨vs, H1, I1, r1, q1⟩ => ?_) hst hpl)))
  obtain ⟨a, b, ss, ys, rfl, hA, hB, hl, q⟩ := q1
  obtain ⟨u1, u2, rfl, ra, rb⟩ := vals2 r1
  cases ra
  cases rb
  obtain ⟨its, rv, p1, z1⟩ := I1.list hA
  obtain ⟨its2, rv2, p2, z2⟩ := I1.tuple hB
  have pl := p1.isList
  have a9 : a < s1.heap.objs.size := let ⟨_, e, _⟩ := pl; Heap.lt_size e
  have b9 : b < s1.heap.objs.size := let ⟨_, e, _⟩ := p2; Heap.lt_size e
  refine callMix pl (show s1.heap.IsTuple b its2.toArray from p2) fun hz y1 y2 y3 y4 y5 zk => ?_
  generalize hn : s1.heap.objs.size = n at a9 b9 y1 y2 y3 y4 y5
  refine Calls.spliced_nil ?_
  have D := PySem.W.ktu_apart n a b a9 b9
  have sep : ZipSep2 (n + 4) (n + 2) (n + 3) n (n + 1) [n, a] [n + 1, b] := by
    refine ⟨D.TIz, D.TOz, D.TITO, D.TIi1, List.mem_cons_self, fun q => ?_, fun q => ?_, D.TIi2, List.mem_cons_self, fun q => ?_, fun q => ?_, fun q => ?_, fun q => ?_⟩ <;> simp only [List.mem_cons, List.not_mem_nil, or_false] at q <;> rcases q with e | e
    · exact D.i1z e.symm
    · exact D.l1z e.symm
    · exact D.TOi1 e
    · exact D.l1TO e.symm
    · exact D.i2z e.symm
    · exact D.l2z e.symm
    · exact D.TOi2 e
    · exact D.l2TO e.symm
    · exact D.i12 e
    · exact D.l2i1 e.symm
    · exact D.i12 e.symm
    · exact D.l1i2 e.symm
  have PA := pairZip (prog := X.prog) (w := X.w) sep (fun A hA => Draws.list hA n a (Nat.ne_of_lt a9) its.toArray) (fun A hA => drawsTup hA (n + 1) b (Nat.ne_of_lt (Nat.lt_succ_of_lt b9)) its2.toArray)
    (fun h st q hq => by
      simp only [List.mem_cons, List.not_mem_nil, or_false] at hq
      rcases hq with e | e
      · rw [e]; obtain ⟨o, ho, _⟩ := st.1; exact ⟨o, ho⟩
      · rw [e]; obtain ⟨o, ho, _⟩ := st.2; exact ⟨o, ho⟩)
    (fun h st q hq => by
      simp only [List.mem_cons, List.not_mem_nil, or_false] at hq
      rcases hq with e | e
      · rw [e]; obtain ⟨o, ho, _⟩ := st.1; exact ⟨o, ho⟩
      · rw [e]; obtain ⟨o, ho, _⟩ := st.2; exact ⟨o, ho⟩)
  have pl' : hz.IsList a its.toArray := let ⟨o, e, r⟩ := pl; ⟨o, zk _ _ e, r⟩
  have p2' : hz.IsTuple b its2.toArray := let ⟨o, e, r⟩ := p2; ⟨o, zk _ _ e, r⟩
  obtain ⟨prs, kv, lp, fp⟩ := kv_zip rv rv2 hl
  have l1 := rv.length
  have l2 := rv2.length
  rw [List.length_map] at l1
  have hnn : min its.toArray.size its2.toArray.size = prs.length := by simp; omega
  refine PySem.call_dict_pairs (knd := mixKind X.prog X.w) (kvs := prs) PA (I1.ok.hd hc) ⟨y1, y2, ⟨_, _, y3⟩, ⟨y4, pl'⟩, ⟨y5, p2'⟩⟩ ⟨hnn.symm, fun i key v hkv => ?_⟩ (by rw [hnn, lp]; rw [List.length_map] at z1; exact z1) fun h' tk hd' hk => ?_
  · obtain ⟨z, t, e1, e2⟩ := fp i key v (by simpa using hkv.1) (by simpa using hkv.2)
    exact ⟨_, e2, by rw [e1]; exact mixKind_str X.prog X.w z t⟩
  · have sz : s1.heap.objs.size ≤ hz.objs.size := by
      rw [hn]
      exact Nat.le_of_lt (Nat.lt_of_le_of_lt (Nat.le_add_right n 4) (Heap.lt_size y1))
    have kp : ∀ b u, s1.heap.get? b = some u → h'.get? b = some u := fun c u e => hk c u (fun hm => by
      have hlt : c < s1.heap.objs.size := Heap.lt_size e
      rw [hn] at hlt
      have q : ∀ {c n : Nat}, c < n → c ≠ n + 4 ∧ c ≠ n + 3 ∧ c ≠ n ∧ c ≠ n + 1 := fun h => by omega
      obtain ⟨m1, m2, m3, m4⟩ := q hlt
      simp only [List.mem_cons, List.not_mem_nil, or_false] at hm
      rcases hm with e | e | e | e
      · exact m1 e
      · exact m2 e
      · exact m3 e
      · exact m4 e) (zk _ _ e)
    have hm : (hz.objs.size == sysModules) = false := beq_eq_false_iff_ne.mpr (Nat.ne_of_gt (Nat.lt_of_lt_of_le I1.big sz))
    have hlen : (mergeK [] ((ss.zip ys).map strKv)).length ≤ sizeLine := by
      refine Nat.le_trans (length_mergeK _ []) ?_
      rw [List.length_nil, Nat.zero_add, kv.length, lp]
      rw [List.length_map] at z1
      exact z1
    exact ⟨.ref hz.objs.size, upd H1 hz.objs.size (.dK (mergeK [] ((ss.zip ys).map strKv))), I1.laid (t' := tk) kp sz (show ObjOk X.prog X.w _ _ _ (.dK (mergeK [] ((ss.zip ys).map strKv))) from ⟨hlen, hm, merged [] prs, KV.merge kv .nil, hd'⟩), rfl, q _ (I1.hok.fresh sz)⟩
end Pk
end
/-! holds, rule_holds; the law's own. -/
namespace Pk
open PySem L2
theorem inS_is {zs : List Str} {d : PyData} (h : inS zs d = true) : ∃ z ∈ zs, d = .str z := by
  unfold inS at h
  obtain ⟨z, hz, e⟩ := List.any_eq_true.mp h
  exact ⟨z, hz, strIs_is e⟩
theorem whole_is {lo hi : Int} {d : PyData} (h : wholeD lo hi d = true) : ∃ i, d = .int i := by
  cases d with
  | int i => exact ⟨i, rfl⟩
  | _ => cases h
theorem say_is {ns : List Str} {d : PyData} (h : sayingD ns d = true) : ∃ z so i, d = .tuple [.str z, .str so, .int i] ∧ z ∈ ns ∧ so ∈ sorts2 := by
  unfold sayingD at h
  split at h
  · rw [Bool.and_eq_true, Bool.and_eq_true] at h
    obtain ⟨z, hz, rfl⟩ := inS_is h.1
    obtain ⟨so, hs, rfl⟩ := inS_is h.2.1
    obtain ⟨i, rfl⟩ := whole_is h.2.2
    exact ⟨z, so, i, rfl, hz, hs⟩
  · cases h
theorem rule_is {ns : List Str} {d : PyData} (h : ruleD ns d = true) : (∃ p q, d = .tuple [.str "one", p, q] ∧ sayingD ns p = true ∧ sayingD ns q = true) ∨ ∃ w a b c, d = .tuple [.str w, .str a, .str b, .int c] ∧ w ∈ pairs3 ∧ a ∈ ns ∧ b ∈ ns := by
  unfold ruleD at h
  split at h
  · rw [Bool.and_eq_true, Bool.and_eq_true] at h
    exact .inl ⟨_, _, by rw [strIs_is h.1], h.2.1, h.2.2⟩
  · rw [Bool.and_eq_true, Bool.and_eq_true, Bool.and_eq_true, Bool.and_eq_true] at h
    obtain ⟨w, hw, rfl⟩ := inS_is h.1
    obtain ⟨a, ha, rfl⟩ := inS_is h.2.1
    obtain ⟨b, hb, rfl⟩ := inS_is h.2.2.1
    obtain ⟨c, rfl⟩ := whole_is h.2.2.2.2
    exact .inr ⟨w, a, b, c, rfl, hw, ha, hb⟩
  · cases h
theorem pairs_one : ∀ w ∈ pairs3, decide (w = ("one" : Str)) = false := by decide +kernel
def spHolds : Sp := fun vs H Q _ => ∃ (x : V) (d : Addr) (es : List (Str × Int)) (sd : PyData), vs = [x, .ref d] ∧ Tr H x sd ∧ sayingD (es.map (·.1)) sd = true ∧ H d = some (.dK (es.map kvOf)) ∧ Q (.bl (holdsS (lookE es) sd)) H
def spRuleH : Sp := fun vs H Q _ => ∃ (x : V) (d : Addr) (es : List (Str × Int)) (rd : PyData), vs = [x, .ref d] ∧ Tr H x rd ∧ ruleD (es.map (·.1)) rd = true ∧ H d = some (.dK (es.map kvOf)) ∧ Q (.bl (ruleH (lookE es) rd)) H
theorem tup3 {H : Hp} {x : V} {a b c : PyData} (t : Tr H x (.tuple [a, b, c])) : ∃ (p : Addr) (u v w : V), x = .ref p ∧ H p = some (.tup [u, v, w]) ∧ Tr H u a ∧ Tr H v b ∧ Tr H w c := by
  cases t with
  | @tup p xs _ h al =>
    match xs, al with
    | [_, _, _], .cons t1 (.cons t2 (.cons t3 .nil)) => exact ⟨p, _, _, _, rfl, h, t1, t2, t3⟩
theorem tup4 {H : Hp} {x : V} {a b c d : PyData} (t : Tr H x (.tuple [a, b, c, d])) : ∃ (p : Addr) (u v w y : V), x = .ref p ∧ H p = some (.tup [u, v, w, y]) ∧ Tr H u a ∧ Tr H v b ∧ Tr H w c ∧ Tr H y d := by
  cases t with
  | @tup p xs _ h al =>
    match xs, al with
    | [_, _, _, _], .cons t1 (.cons t2 (.cons t3 (.cons t4 .nil))) => exact ⟨p, _, _, _, _, rfl, h, t1, t2, t3, t4⟩
theorem Tr.strV {H : Hp} {x : V} {z : Str} (t : Tr H x (.str z)) : x = .str z := by cases t; rfl
theorem Tr.intV {H : Hp} {x : V} {z : Int} (t : Tr H x (.int z)) : x = .int z := by cases t; rfl
section
variable {P : Program} {w : World} {K : PySem.W.Frag} {mg : Str → Option Value} {base : Heap}
end
end Pk
/-! names_in, Layout. -/
namespace Pk
open PySem L2
abbrev sNamesIn : Stmt := topH 28
abbrev sInit : Stmt := inClass (topH 29) 0
abbrev sByN : Stmt := inClass (topH 29) 1
theorem dc_it {J : It} {n : Nat} {G : Hp → Prop} {Y : Nat → Hp → V → Hp → Prop} (W : Walk J n G Y) {g : TG} {tt : TT} {tk tv : TE} {vs : List Nat} {σ : L2.St} {H1 : Hp} {D : Addr} {Qd : Hp → Prop} (Pv : Nat → Hp → Prop) (h0 : Pv 0 (upd H1 D (.dK []))) (hG : ∀ i H, i ≤ n → Pv i H → G H)
    (hs : ∀ i x H H', i < n → Pv i H → Y i H x H' → g x (wipe σ vs) H' fun σ2 H2 => wipe σ2 vs = wipe σ vs ∧ tt σ2 H2 fun b H3 =>
      if b = true then tk σ2 H3 fun y H4 => tv σ2 H4 fun z H5 => ∃ kvs k, y = kV k ∧ H5 D = some (.dK kvs) ∧ kvs.length < sizeLine ∧ Pv (i + 1) (upd H5 D (.dK (putK kvs k z))) else Pv (i + 1) H3) (hd : ∀ H, Pv n H → Qd H) :
    ∃ W' : Nat → Nat → Hp → Prop, (∃ m, W' 0 m (upd H1 D (.dK []))) ∧ ∀ i m H, W' i m H →
      (J.stop i H ∧ Qd H) ∨ (J.go i H ∧ ∃ Nx : Hp → Prop, (∀ H', Nx H' → ∃ m', m' < m ∧ W' (i + 1) m' H') ∧ ∀ x H', J.yld i H x H' → g x (wipe σ vs) H' fun σ2 H2 => wipe σ2 vs = wipe σ vs ∧ tt σ2 H2 fun b H3 =>
        if b = true then tk σ2 H3 fun y H4 => tv σ2 H4 fun z H5 => ∃ kvs k, y = kV k ∧ H5 D = some (.dK kvs) ∧ kvs.length < sizeLine ∧ Nx (upd H5 D (.dK (putK kvs k z))) else Nx H3) := by
  refine ⟨fun i m H => m = n - i ∧ i ≤ n ∧ Pv i H, ⟨n, by simp, Nat.zero_le _, h0⟩, ?_⟩
  rintro i m H ⟨rfl, hi, p⟩
  have hg := hG i H hi p
  by_cases hlt : i < n
  · exact .inr ⟨W.goes i H hlt hg, Pv (i + 1), fun H' p' => ⟨n - (i + 1), by omega, rfl, hlt, p'⟩, fun x H' y => hs i x H H' hlt p (W.yields i H x H' hlt hg y)⟩
  · have e : i = n := by omega
    subst e
    exact .inl ⟨W.stops H hg, hd H p⟩
/-- an either-or of two sayings of this name -/
def ownOf (z : Str) : PyData → Bool
  | .tuple [_, .tuple [.str a, _, _], .tuple [.str b, _, _]] => decide (a = z) && decide (b = z)
  | _ => false
def spNamesIn : Sp := fun vs H Q _ => ∃ (x : V) (ns : List Str) (rd : PyData), vs = [x] ∧ Tr H x rd ∧ ruleD ns rd = true ∧ ∀ (l : Addr) (zs : List Str) (H' : Hp), Same H H' → H l = none → H' l = some (.lst (zs.map V.str)) → zs.length ≤ 2 → (∀ z ∈ zs, z ∈ ns) → (∀ z, ownOf z rd = true → z ∈ zs) → Q (.ref l) H'
section
variable {P : Program} {w : World} {K : PySem.W.Frag} {mg : Str → Option Value} {base : Heap}
theorem scNamesIn : FnScope ["rule", "first", "second"] ["rule"] (defScope sNamesIn) := ⟨rfl, rfl, rfl, by decide +kernel, rfl, by decide +kernel, by decide +kernel⟩
theorem ok_namesIn {f : Addr} {fd : FuncData} (F : Fun K "names_in" "names_in" sNamesIn f fd) : FnOk P w K mg base CX0 1 f fd ["rule"] spNamesIn := by
  refine F.ok scNamesIn (fun vs H Q E h => ?_) (fun cdv A outer s H vs Q E hr h => ?_)
  · obtain ⟨x, ns, rd, rfl, _⟩ := h
    rfl
  obtain ⟨x, ns, rd, rfl, t, hs, k⟩ := h
  refine ⟨_, pss_cons (ps_if (pt_cmpR op_ne (pe_ix ix_tup (pv 0) pe_int (fun _ _ => rfl)) pe_str (nomark _)) (pss_one (ps_ret (pe_lst (pa_cons (pe_ix ix_tup (pv 0) pe_int (fun _ _ => rfl)) (pa_cons (pe_ix ix_tup (pv 0) pe_int (fun _ _ => rfl)) pa_nil))))) pss_nil) <|
    pss_cons (ps_par (i := 1) (j := 2) (by rfl) scNamesIn.nd rfl rfl (by decide) rfl rfl (pa_cons (pe_ix ix_tup (pe_ix ix_tup (pv 0) pe_int (fun _ _ => rfl)) pe_int (fun _ _ => rfl)) (pa_cons (pe_ix ix_tup (pe_ix ix_tup (pv 0) pe_int (fun _ _ => rfl)) pe_int (fun _ _ => rfl)) pa_nil)) (by rfl)) <|
    pss_one (ps_ret (pe_ifExp (pt_cmpR op_eq (pv 1) (pv 2) (nomark _)) (pe_lst (pa_cons (pv 1) pa_nil)) (pe_lst (pa_cons (pv 1) (pa_cons (pv 2) pa_nil))))), ?_⟩
  rcases rule_is hs with ⟨p, q, rfl, h1, h2⟩ | ⟨w', a, b, c, rfl, hw, ha, hb⟩
  · obtain ⟨z1, so1, j1, rfl, m1, _⟩ := say_is h1
    obtain ⟨z2, so2, j2, rfl, m2, _⟩ := say_is h2
    obtain ⟨pa, u, v, y, rfl, hp, t1, t2, t3⟩ := tup3 t
    cases t1.strV
    obtain ⟨q1, a1, a2, a3, rfl, g1, s1, s2, s3⟩ := tup3 t2
    obtain ⟨q2, b1, b2, b3, rfl, g2, r1, r2, r3⟩ := tup3 t3
    cases s1.strV
    cases r1.strV
    refine ⟨_, rfl, pa, _, _, _, rfl, rfl, SqT.of hp, (rfl : atI [V.str "one", V.ref q1, V.ref q2] 0 = some (V.str "one")), rfl, _, rfl, iteF ?_⟩
    refine ⟨_, rfl, pa, _, _, _, rfl, rfl, SqT.of hp, (rfl : atI [V.str "one", V.ref q1, V.ref q2] 1 = some (V.ref q1)), q1, _, _, _, rfl, rfl, SqT.of g1, (rfl : atI [V.str z1, a2, a3] 0 = some (V.str z1)), ?_⟩
    refine ⟨_, rfl, pa, _, _, _, rfl, rfl, SqT.of hp, (rfl : atI [V.str "one", V.ref q1, V.ref q2] 2 = some (V.ref q2)), q2, _, _, _, rfl, rfl, SqT.of g2, (rfl : atI [V.str z2, b2, b3] 0 = some (V.str z2)), ?_⟩
    refine ⟨_, _, rfl, _, rfl, _, rfl, rfl, _, rfl, ?_⟩
    refine ite2 (fun _ => ?_) (fun _ => ?_)
    · exact ⟨_, rfl, by show 1 ≤ sizeLine; decide, fun l nl => k l [z1] _ (sameNew nl _) nl upd_same (by simp) (fun z hz => by rw [List.mem_singleton.mp hz]; exact m1) (fun z hz => by
      have hz' : (decide (z1 = z) && decide (z2 = z)) = true := hz
      rw [Bool.and_eq_true, decide_eq_true_eq] at hz'
      rw [hz'.1]
      exact List.mem_cons_self)⟩
    · refine ⟨_, rfl, _, rfl, by show 2 ≤ sizeLine; decide, fun l nl => k l [z1, z2] _ (sameNew nl _) nl upd_same (by simp) (fun z hz => ?_) (fun z hz => by
      have hz' : (decide (z1 = z) && decide (z2 = z)) = true := hz
      rw [Bool.and_eq_true, decide_eq_true_eq] at hz'
      rw [hz'.1]
      exact List.mem_cons_self)⟩
      simp only [List.mem_cons, List.not_mem_nil, or_false] at hz
      rcases hz with rfl | rfl
      · exact m1
      · exact m2
  · obtain ⟨pa, u, v, y, z, rfl, hp, t1, t2, t3, t4⟩ := tup4 t
    cases t1.strV
    cases t2.strV
    cases t3.strV
    cases t4.intV
    refine ⟨_, rfl, pa, _, _, _, rfl, rfl, SqT.of hp, (rfl : atI [V.str w', V.str a, V.str b, V.int c] 0 = some (V.str w')), rfl, _, rfl, ?_⟩
    refine ite2 (fun _ => ?_) (fun c1 => ?_)
    · refine ⟨_, rfl, pa, _, _, _, rfl, rfl, SqT.of hp, (rfl : atI [V.str w', V.str a, V.str b, V.int c] 1 = some (V.str a)), _, rfl, pa, _, _, _, rfl, rfl, SqT.of hp, (rfl : atI [V.str w', V.str a, V.str b, V.int c] 2 = some (V.str b)), by show 2 ≤ sizeLine; decide, fun l nl => k l [a, b] _ (sameNew nl _) nl upd_same (by simp) (fun z hz => ?_) (fun z hz => by cases hz)⟩
      simp only [List.mem_cons, List.not_mem_nil, or_false] at hz
      rcases hz with rfl | rfl
      · exact ha
      · exact hb
    · exfalso
      have q := pairs_one w' hw
      have q2 : w' = ("one" : Str) := by simpa using c1
      rw [decide_eq_true q2] at q
      cases q
end
end Pk
/-! Layout's making. -/
namespace Pk
open PySem L2
structure LayTxt (K : PySem.W.Frag) (mg : Str → Option Value) (C : Addr) : Prop where
  cl : Cls K C
  nN : NoAttr K C "names"
  nD : NoAttr K C "dials"
  nR : NoAttr K C "rules"
  nS : NoAttr K C "speaking"
  mgC : mg "Layout" = some (.ref C)
/-- a Layout at x, its names at nl -/
structure LayAt (C : Addr) (H : Hp) (x nl : Addr) (ns : List Str) : Prop where
  ob : ∃ dx fs, H x = some (.ins C dx fs) ∧ fs.lookup ("names" : Str) = some (.ref nl) ∧ fs.lookup ("by_names" : Str) = none
  nm : H nl = some (.lst (ns.map V.str))
/-- the dials by their names -/
def Dls (H : Hp) (dl : Addr) (ds : List PyData) : Prop := ∃ kvs : List (Key × V), H dl = some (.dK kvs) ∧ ∀ d ∈ ds, ∃ v, valV kvs (Sum.inr (nameOf d)) = some v ∧ Tr H v d
/-- the rules that speak of a name -/
def Spf (H : Hp) (sp : Addr) (ns : List Str) (rs : List PyData) : Prop := ∃ kvs : List (Key × V), H sp = some (.dK kvs) ∧ ∀ z ∈ ns, ∃ (l : Addr) (ys : List V) (qs : List PyData), valV kvs (Sum.inr z) = some (.ref l) ∧ H l = some (.lst ys) ∧ TrAll H ys qs ∧ (∀ q ∈ qs, q ∈ rs) ∧ ∀ r ∈ rs, ownOf z r = true → r ∈ qs
/-- a whole Layout at x -/
structure LayF (C : Addr) (H : Hp) (x nl dl rb sp : Addr) (ds rs : List PyData) : Prop where
  ob : ∃ dx fs, H x = some (.ins C dx fs) ∧ fs.lookup ("names" : Str) = some (.ref nl) ∧ fs.lookup ("dials" : Str) = some (.ref dl) ∧ fs.lookup ("rules" : Str) = some (.ref rb) ∧ fs.lookup ("speaking" : Str) = some (.ref sp) ∧ fs.lookup ("by_names" : Str) = none ∧ fs.lookup ("numbers_of" : Str) = none
  nm : H nl = some (.lst ((ds.map nameOf).map V.str))
  dl : Dls H dl ds
  ru : Tr H (.ref rb) (.tuple rs)
  sp : Spf H sp (ds.map nameOf) rs
theorem LayF.at {C : Addr} {H : Hp} {x nl dl rb sp : Addr} {ds rs : List PyData} (L : LayF C H x nl dl rb sp ds rs) : LayAt C H x nl (ds.map nameOf) := by
  obtain ⟨dx, fs, h1, h2, _, _, _, h3, _⟩ := L.ob
  exact ⟨⟨dx, fs, h1, h2, h3⟩, L.nm⟩
def spInit (C : Addr) : Sp := fun vs H Q _ => ∃ (x h dx : Addr) (ds rs : List PyData), vs = [.ref x, .ref h] ∧ H x = some (.ins C dx []) ∧ Tr H (.ref h) (.tuple [.tuple ds, .tuple rs]) ∧ HouseG ds rs ∧
  ∀ (nl dl rb sp : Addr) (H' : Hp), LayF C H' x nl dl rb sp ds rs → (∀ b o, b ≠ x → H b = some o → H' b = some o) → Q .non H'
abbrev nInit : List Str := ["self", "house", "dials", "rules", "name", "rule", "dial"]
/-- each name has a list of its own -/
def Spk (H0 : Hp) (nl : Addr) (ns : List Str) (rs : List PyData) (dn : Str → PyData → Prop) (m : Nat) (H' : Hp) (sp : Addr) : Prop := ∃ kvs : List (Key × V), H' sp = some (.dK kvs) ∧ ∀ z ∈ ns, ∃ (l : Addr) (ys : List V) (qs : List PyData), valV kvs (Sum.inr z) = some (.ref l) ∧ H0 l = none ∧ l ≠ nl ∧ H' l = some (.lst ys) ∧ ys.length ≤ m ∧ TrAll H0 ys qs ∧ (∀ q ∈ qs, q ∈ rs) ∧ ∀ r, dn z r → r ∈ qs
theorem dial_tup0 {H : Hp} {x : V} {d : PyData} (t : Tr H x d) (h : DialG d) : ∃ (b : Addr) (xs : List V), x = .ref b ∧ H b = some (.tup xs) ∧ atI xs 0 = some (.str (nameOf d)) := by
  obtain ⟨nm, way, lo, hi, up, dn, rfl, _⟩ := h
  cases t with
  | @tup b xs _ hb al =>
    match xs, al with
    | [_, _, _, _, _, _], .cons (.str _) _ => exact ⟨b, _, rfl, hb, rfl⟩
/-- no data stands at p -/
def NoData (H : Hp) (p : Addr) : Prop := ∀ o, H p = some o → (∀ xs, o ≠ .lst xs) ∧ (∀ xs, o ≠ .tup xs) ∧ ∀ kvs, o ≠ .dK kvs
theorem NoData.ins {H : Hp} {p C dx : Addr} {fs : List (Str × V)} (h : H p = some (.ins C dx fs)) : NoData H p := fun o e => by
  rw [h] at e
  cases e
  refine ⟨fun _ z => ?_, fun _ z => ?_, fun _ z => ?_⟩ <;> cases z
mutual
theorem Tr.but {p : Addr} {H H' : Hp} (n : NoData H p) (k : ∀ c o, c ≠ p → H c = some o → H' c = some o) : ∀ {v : V} {d : PyData}, Tr H v d → Tr H' v d
  | _, _, .non => .non
  | _, _, .bl b => .bl b
  | _, _, .int i => .int i
  | _, _, .str x => .str x
  | _, _, .lst h t => .lst (k _ _ (fun z => by rw [z] at h; exact (n _ h).1 _ rfl) h) (TrAll.but n k t)
  | _, _, .tup h t => .tup (k _ _ (fun z => by rw [z] at h; exact (n _ h).2.1 _ rfl) h) (TrAll.but n k t)
  | _, _, .dct h nd e t => .dct (k _ _ (fun z => by rw [z] at h; exact (n _ h).2.2 _ rfl) h) nd e (TrAll.but n k t)
theorem TrAll.but {p : Addr} {H H' : Hp} (n : NoData H p) (k : ∀ c o, c ≠ p → H c = some o → H' c = some o) : ∀ {vs : List V} {ds : List PyData}, TrAll H vs ds → TrAll H' vs ds
  | _, _, .nil => .nil
  | _, _, .cons a b => .cons (Tr.but n k a) (TrAll.but n k b)
end
theorem nd_ix {α : Type} {l : List α} {i j : Nat} {a : α} (h : l.Nodup) (hi : l[i]? = some a) (hj : l[j]? = some a) : i = j := by
  obtain ⟨h1, e1⟩ := List.getElem?_eq_some_iff.mp hi
  obtain ⟨h2, e2⟩ := List.getElem?_eq_some_iff.mp hj
  rcases Nat.lt_trichotomy i j with q | q | q
  · exact absurd (e1.trans e2.symm) (List.pairwise_iff_getElem.mp h i j h1 h2 q)
  · exact q
  · exact absurd (e2.trans e1.symm) (List.pairwise_iff_getElem.mp h j i h2 h1 q)
section
variable {P : Program} {w : World} {K : PySem.W.Frag} {mg : Str → Option Value} {base : Heap}
theorem scInit : FnScope nInit ["self", "house"] (defScope sInit) := ⟨rfl, rfl, rfl, by decide +kernel, rfl, by decide +kernel, by decide +kernel⟩
set_option maxHeartbeats 2000000 in
theorem ok_init {f g C : Addr} {fd gd : FuncData} (F : Fun K "__init__" "Layout.__init__" sInit f fd) (T : LayTxt K mg C) (G : FnOk P w K mg base CX0 1 g gd ["rule"] spNamesIn) (bG : Binds K gd ["rule"] []) (kG : PySem.W.keepIn K (.ref g) = true) (mG : mg "names_in" = some (.ref g)) :
    FnOk P w K mg base CX0 2 f fd ["self", "house"] (spInit C) := by
  refine F.ok scInit (fun vs H Q E h => ?_) (fun cdv A outer s H vs Q E hr h => ?_)
  · obtain ⟨x, h, dx, ds, rs, rfl, _⟩ := h
    rfl
  obtain ⟨x, h, dx, ds, rs, rfl, hx, th, hg, k⟩ := h
  have hu := hu_of hr
  refine ⟨_, pss_cons (ps_asg (pv 1) (pg_tup (by rfl) (pgs_cons (pg_name (i := 2) scInit.nd rfl (.inl rfl)) <| pgs_cons (pg_name (i := 3) scInit.nd rfl (.inl rfl)) pgs_nil))) <|
    pss_cons (ps_fld (pv 0) (pe_lc (own := [("dial", 6)]) (g := gName 6) (by rfl) scInit.nd (pi_tup (pv 2)) (blkOk_by (N := nInit) (sc := defScope sInit) (by decide +kernel)) (fun _ _ _ _ _ => pg_name (i := 6) scInit.nd rfl (Or.inl rfl)) (fun _ _ _ _ _ => pts_nil) (fun _ _ _ _ _ => pe_ix (r := rIxT K) ix_tup (pv 6) pe_int (fun _ _ => rfl))) rfl) <|
    pss_cons (ps_fld (pv 0) (pe_dc (own := [("dial", 6)]) (g := gName 6) (by rfl) scInit.nd (pi_tup (pv 2)) (blkOk_by (N := nInit) (sc := defScope sInit) (by decide +kernel)) (fun _ _ _ _ _ => pg_name (i := 6) scInit.nd rfl (Or.inl rfl)) (fun _ _ _ _ _ => pts_nil) (fun _ _ _ _ _ => pe_ix (r := rIxT K) ix_tup (pv 6) pe_int (fun _ _ => rfl)) (fun _ _ _ _ _ => pv 6)) rfl) <|
    pss_cons (ps_fld (pv 0) (pv 3) rfl) <|
    pss_cons (ps_fld (pv 0) (pe_dc (own := [("name", 4)]) (g := gName 4) (by rfl) scInit.nd (pi_list (pe_fld (pv 0) rfl)) (blkOk_by (N := nInit) (sc := defScope sInit) (by decide +kernel)) (fun _ _ _ _ _ => pg_name (i := 4) scInit.nd rfl (Or.inl rfl)) (fun _ _ _ _ _ => pts_nil) (fun _ _ _ _ _ => pv 4) (fun _ _ _ _ _ => pe_lst pa_nil)) rfl) <|
    pss_one (ps_for PassesOwn.never rfl (pi_tup (pv 3)) (pg_name (i := 5) scInit.nd rfl (Or.inl rfl))
      (pss_one (ps_for PassesOwn.never rfl (pi_list (pe_call G hr rfl mG kG bG .nil pass0 (pa_cons (pv 5) pa_nil))) (pg_name (i := 4) scInit.nd rfl (Or.inl rfl))
        (pss_one (ps_expr (pe_bm PySem.F.plainAttrs_list PySem.F.slot_list_append PySem.F.type_list_append mt_append (pe_dget hu (pe_fld (pv 0) rfl) (pv 4) (fun _ _ => rfl)) (pa_cons (pv 5) pa_nil))))))), ?_⟩
  cases th with
  | @tup _ hs _ hh al =>
  match hs, al with
  | [_, _], .cons (@Tr.tup _ a xs _ hA alA) (.cons (@Tr.tup _ b ys _ hB alB) .nil) =>
  have lA := alA.length
  have lB := alB.length
  have d2 := hg.d2
  have r2 := hg.r2
  refine ⟨_, rfl, h, _, rfl, SqT.of hh, rfl, _, _, rfl, _, _, rfl, rfl, ?_⟩
  -- the names
  refine ⟨_, rfl, a, rfl, ⟨_, SqT.of hA⟩, fun nl hnl => lc_tup (K := K) (a := a) (xs := xs) (fun i H1 => H1 nl = some (.lst (((ds.map nameOf).take i).map V.str)) ∧ Same H H1) ⟨upd_same, sameNew hnl _⟩ (fun i H1 _ ⟨_, s1⟩ => SqT.of (s1 _ _ hA)) ?_ ?_⟩
  · rintro i y H1 hy ⟨e1, s1⟩
    obtain ⟨d, hd, tr⟩ := alA.get hy
    obtain ⟨q, qs, rfl, hq, i0⟩ := dial_tup0 (tr.same s1) (hg.dials d (List.mem_of_getElem? hd))
    have hn : (ds.map nameOf)[i]? = some (nameOf d) := by rw [List.getElem?_map, hd]; rfl
    refine ⟨rfl, _, rfl, q, _, _, _, rfl, rfl, SqT.of hq, i0, _, e1, small1000 (by simp; omega), ?_, fun c o e => ?_⟩
    · rw [upd_same, take_more hn, List.map_append]
      rfl
    · rw [upd_ne (ne_of_none e hnl)]
      exact s1 _ _ e
  rintro H1 ⟨e1, s1⟩
  have e1 : H1 nl = some (.lst ((ds.map nameOf).map V.str)) := by rw [e1, List.take_of_length_le (by simp; omega)]
  have xnl : x ≠ nl := ne_of (s1 _ _ hx) e1 (by intro z; cases z)
  refine ⟨_, rfl, x, C, dx, [], rfl, s1 _ _ hx, T.cl, T.nN, by show 0 < 1000; decide, ?_⟩
  generalize hF1 : putF "names" (V.ref nl) [] = fs1
  have lF1 : fs1.length ≤ 1 := by rw [← hF1]; exact length_putF _ _ []
  have k1 : fs1.lookup ("names" : Str) = some (.ref nl) := by rw [← hF1, lookup_putF, if_pos rfl]
  have n1 : fs1.lookup ("by_names" : Str) = none := by rw [← hF1, lookup_putF, if_neg (by decide +kernel)]; rfl
  have o1 : fs1.lookup ("numbers_of" : Str) = none := by rw [← hF1, lookup_putF, if_neg (by decide +kernel)]; rfl
  have kp1 : ∀ c o, c ≠ x → H c = some o → upd H1 x (.ins C dx fs1) c = some o := fun c o hc e => by rw [upd_ne hc]; exact s1 _ _ e
  have x1 : upd H1 x (.ins C dx fs1) x = some (.ins C dx fs1) := upd_same
  have m1 : upd H1 x (.ins C dx fs1) nl = some (.lst ((ds.map nameOf).map V.str)) := by rw [upd_ne xnl.symm]; exact e1
  generalize upd H1 x (.ins C dx fs1) = H2 at kp1 x1 m1
  have ax : a ≠ x := ne_of hA hx (by intro z; cases z)
  have bx : b ≠ x := ne_of hB hx (by intro z; cases z)
  clear e1 s1 hF1
  -- the dials
  have nx : NoData H x := .ins hx
  have alA2 : TrAll H2 xs ds := alA.but nx kp1
  have hA2 := kp1 _ _ ax hA
  refine ⟨_, rfl, a, rfl, ⟨_, SqT.of hA2⟩, fun D2 hD2 => dc_it (walk_tup (K := K) (a := a) (xs := xs)) (fun i H3 => ∃ kvs : List (Key × V), H3 D2 = some (.dK kvs) ∧ kvs.length ≤ i ∧ (∀ d ∈ ds.take i, ∃ v, valV kvs (Sum.inr (nameOf d)) = some v ∧ Tr H v d) ∧ Same H2 H3) ⟨[], upd_same, Nat.le_refl _, fun _ h => absurd h (by simp), sameNew hD2 _⟩ (fun i H3 _ ⟨_, _, _, _, s3⟩ => SqT.of (s3 _ _ hA2)) ?_ ?_⟩
  · rintro i y H3 _ hi ⟨kvs, e3, l3, f3, s3⟩ ⟨rfl, hy⟩
    obtain ⟨d0, hd0, tr0⟩ := alA.get hy
    obtain ⟨d, hd, tr⟩ := alA2.get hy
    obtain ⟨q, qs, rfl, hq, i0⟩ := dial_tup0 (tr.same s3) (hg.dials d (List.mem_of_getElem? hd))
    refine ⟨rfl, _, rfl, q, _, _, _, rfl, rfl, SqT.of hq, i0, _, rfl, kvs, Sum.inr (nameOf d), rfl, e3, small1000 (by omega), _, upd_same, Nat.le_trans (length_putK _ _ _) (by omega), fun d' hd' => ?_, fun c o e => ?_⟩
    · obtain rfl : d = d0 := Option.some.inj (hd.symm.trans hd0)
      rw [valV_put]
      by_cases c : nameOf d' = nameOf d
      · refine ⟨_, by rw [if_pos (by rw [c])], ?_⟩
        have e : d' = d := by
          have hm : d' ∈ ds.take i ++ [d] := by rw [← take_more hd]; exact hd'
          rcases List.mem_append.mp hm with q | q
          · exfalso
            obtain ⟨j, hj, ej⟩ := List.getElem_of_mem q
            rw [List.length_take] at hj
            have hj2 : (ds.map nameOf)[j]? = some (nameOf d') := by
              rw [List.getElem?_map, ← ej, List.getElem_take]
              rw [List.getElem?_eq_getElem (by omega)]
              rfl
            have hi2 : (ds.map nameOf)[i]? = some (nameOf d') := by rw [List.getElem?_map, hd, c]; rfl
            have := nd_ix hg.nd hj2 hi2
            omega
          · exact List.mem_singleton.mp q
        rw [e]
        exact tr0
      · rw [if_neg (fun q => c (Sum.inr.inj q))]
        refine f3 d' ?_
        have hm : d' ∈ ds.take i ++ [d] := by rw [← take_more hd]; exact hd'
        rcases List.mem_append.mp hm with q | q
        · exact q
        · exact absurd (by rw [List.mem_singleton.mp q]) c
    · rw [upd_ne (ne_of_none e hD2)]
      exact s3 _ _ e
  rintro H3 ⟨kvD, e3, _, f3, s3⟩
  have f3 : ∀ d ∈ ds, ∃ v, valV kvD (Sum.inr (nameOf d)) = some v ∧ Tr H v d := fun d hd => f3 d (by rw [List.take_of_length_le (by omega)]; exact hd)
  have xD2 : x ≠ D2 := ne_of (s3 _ _ x1) e3 (by intro z; cases z)
  refine ⟨_, rfl, x, C, dx, fs1, rfl, s3 _ _ x1, T.cl, T.nD, by omega, ?_⟩
  generalize hF2 : putF "dials" (V.ref D2) fs1 = fs2
  have lF2 : fs2.length ≤ 2 := by rw [← hF2]; exact Nat.le_trans (length_putF _ _ _) (by omega)
  have k2 : fs2.lookup ("names" : Str) = some (.ref nl) := by rw [← hF2, lookup_putF, if_neg (by decide +kernel)]; exact k1
  have n2 : fs2.lookup ("by_names" : Str) = none := by rw [← hF2, lookup_putF, if_neg (by decide +kernel)]; exact n1
  have o2 : fs2.lookup ("numbers_of" : Str) = none := by rw [← hF2, lookup_putF, if_neg (by decide +kernel)]; exact o1
  have d2' : fs2.lookup ("dials" : Str) = some (.ref D2) := by rw [← hF2, lookup_putF, if_pos rfl]
  -- the rules
  refine ⟨_, rfl, _, rfl, x, C, dx, fs2, rfl, upd_same, T.cl, T.nR, by omega, ?_⟩
  generalize hF3 : putF "rules" (V.ref b) fs2 = fs3
  have lF3 : fs3.length ≤ 3 := by rw [← hF3]; exact Nat.le_trans (length_putF _ _ _) (by omega)
  have k3 : fs3.lookup ("names" : Str) = some (.ref nl) := by rw [← hF3, lookup_putF, if_neg (by decide +kernel)]; exact k2
  have n3 : fs3.lookup ("by_names" : Str) = none := by rw [← hF3, lookup_putF, if_neg (by decide +kernel)]; exact n2
  have o3 : fs3.lookup ("numbers_of" : Str) = none := by rw [← hF3, lookup_putF, if_neg (by decide +kernel)]; exact o2
  have d3' : fs3.lookup ("dials" : Str) = some (.ref D2) := by rw [← hF3, lookup_putF, if_neg (by decide +kernel)]; exact d2'
  have r3' : fs3.lookup ("rules" : Str) = some (.ref b) := by rw [← hF3, lookup_putF, if_pos rfl]
  have kp3 : ∀ c o, c ≠ x → H c = some o → upd (upd H3 x (.ins C dx fs2)) x (.ins C dx fs3) c = some o := fun c o hc e => by rw [upd_ne hc, upd_ne hc]; exact s3 _ _ (kp1 c o hc e)
  have x3 : upd (upd H3 x (.ins C dx fs2)) x (.ins C dx fs3) x = some (.ins C dx fs3) := upd_same
  have m3 : upd (upd H3 x (.ins C dx fs2)) x (.ins C dx fs3) nl = some (.lst ((ds.map nameOf).map V.str)) := by rw [upd_ne xnl.symm, upd_ne xnl.symm]; exact s3 _ _ m1
  have g3 : upd (upd H3 x (.ins C dx fs2)) x (.ins C dx fs3) D2 = some (.dK kvD) := by rw [upd_ne xD2.symm, upd_ne xD2.symm]; exact e3
  generalize upd (upd H3 x (.ins C dx fs2)) x (.ins C dx fs3) = H4 at kp3 x3 m3 g3
  clear e3 s3 hF2 hF3 kp1 x1 m1 alA2 hA2 k1 n1 k2 n2 hD2 o1 o2 d2'
  -- speaking
  refine ⟨_, rfl, x, C, dx, fs3, _, rfl, x3, T.cl, T.nN, k3, nl, rfl, ⟨_, SqL.of m3⟩, fun D3 hD3 => dc_it (walk_list (K := K) (a := nl) (xs := (ds.map nameOf).map V.str)) (fun i H5 => ∃ kvs : List (Key × V), H5 D3 = some (.dK kvs) ∧ kvs.length ≤ i ∧ (∀ z ∈ (ds.map nameOf).take i, ∃ l : Addr, valV kvs (Sum.inr z) = some (.ref l) ∧ H4 l = none ∧ l ≠ D3 ∧ H5 l = some (.lst [])) ∧ Same H4 H5)
    ⟨[], upd_same, Nat.le_refl _, fun _ hz => absurd hz (by simp), sameNew hD3 _⟩ (fun i H5 _ ⟨_, _, _, _, s5⟩ => SqL.of (s5 _ _ m3)) ?_ ?_⟩
  · rintro i y H5 _ hi ⟨kvs, e5, l5, f5, s5⟩ ⟨rfl, hy⟩
    rw [List.getElem?_map] at hy
    obtain ⟨z, hz, rfl⟩ := Option.map_eq_some_iff.mp hy
    have hi' : i < 12 := by simp at hi; omega
    refine ⟨rfl, _, rfl, by show 0 ≤ sizeLine; decide, fun p np => ?_⟩
    have pD3 : p ≠ D3 := fun q => by rw [q, e5] at np; cases np
    refine ⟨kvs, Sum.inr z, rfl, by rw [upd_ne pD3.symm]; exact e5, small1000 (by omega), _, upd_same, Nat.le_trans (length_putK _ _ _) (by omega), fun z' hz' => ?_, fun c o e => ?_⟩
    · rw [valV_put]
      by_cases c : z' = z
      · subst c
        exact ⟨p, by rw [if_pos rfl], s5.free np, pD3, by rw [upd_ne pD3, upd_same]⟩
      · rw [take_more hz] at hz'
        have hz2 : z' ∈ (ds.map nameOf).take i := by
          rcases List.mem_append.mp hz' with q | q
          · exact q
          · exact absurd (List.mem_singleton.mp q) c
        obtain ⟨l, v1, v2, v3, v4⟩ := f5 z' hz2
        refine ⟨l, by rw [if_neg (fun q => c (Sum.inr.inj q))]; exact v1, v2, v3, ?_⟩
        rw [upd_ne v3, upd_ne (ne_of_none v4 np)]
        exact v4
    · rw [upd_ne (ne_of_none e hD3)]
      exact sameNew np _ _ _ (s5 _ _ e)
  rintro H5 ⟨kvs, e5, _, f5, s5⟩
  rw [List.length_map, List.take_length] at f5
  have xD3 : x ≠ D3 := ne_of (s5 _ _ x3) e5 (by intro z; cases z)
  refine ⟨_, rfl, x, C, dx, fs3, rfl, s5 _ _ x3, T.cl, T.nS, by omega, ?_⟩
  generalize hF4 : putF "speaking" (V.ref D3) fs3 = fs4
  have k4 : fs4.lookup ("names" : Str) = some (.ref nl) := by rw [← hF4, lookup_putF, if_neg (by decide +kernel)]; exact k3
  have n4 : fs4.lookup ("by_names" : Str) = none := by rw [← hF4, lookup_putF, if_neg (by decide +kernel)]; exact n3
  have o4 : fs4.lookup ("numbers_of" : Str) = none := by rw [← hF4, lookup_putF, if_neg (by decide +kernel)]; exact o3
  have d4' : fs4.lookup ("dials" : Str) = some (.ref D2) := by rw [← hF4, lookup_putF, if_neg (by decide +kernel)]; exact d3'
  have r4' : fs4.lookup ("rules" : Str) = some (.ref b) := by rw [← hF4, lookup_putF, if_neg (by decide +kernel)]; exact r3'
  have vS : fs4.lookup ("speaking" : Str) = some (.ref D3) := by rw [← hF4, lookup_putF, if_pos rfl]
  have kp4 : ∀ c o, c ≠ x → H c = some o → upd H5 x (.ins C dx fs4) c = some o := fun c o hc e => by rw [upd_ne hc]; exact s5 _ _ (kp3 c o hc e)
  have x4 : upd H5 x (.ins C dx fs4) x = some (.ins C dx fs4) := upd_same
  have m4 : upd H5 x (.ins C dx fs4) nl = some (.lst ((ds.map nameOf).map V.str)) := by rw [upd_ne xnl.symm]; exact s5 _ _ m3
  have g4 : upd H5 x (.ins C dx fs4) D2 = some (.dK kvD) := by rw [upd_ne xD2.symm]; exact s5 _ _ g3
  have sp4 : Spk H nl (ds.map nameOf) rs (fun z r => ownOf z r = true ∧ r ∈ rs.take 0) 0 (upd H5 x (.ins C dx fs4)) D3 := by
    refine ⟨kvs, by rw [upd_ne xD3.symm]; exact e5, fun z hz => ?_⟩
    obtain ⟨l, w1, w2, w3, w4⟩ := f5 z hz
    have lx : l ≠ x := fun q => by rw [q, x3] at w2; cases w2
    have hl0 : H l = none := by
      cases e : H l with
      | none => rfl
      | some o => rw [kp3 l o lx e] at w2; cases w2
    exact ⟨l, [], [], w1, hl0, fun q => (by rw [q, m3] at w2; cases w2), by rw [upd_ne lx]; exact w4, Nat.le_refl _, .nil, fun _ h => absurd h (by simp), fun _ h => absurd h.2 (by simp)⟩
  generalize upd H5 x (.ins C dx fs4) = H6 at kp4 x4 m4 sp4 g4
  clear e5 f5 s5 hF4 kp3 x3 m3 k3 n3 hD3
  have hB6 := kp4 _ _ bx hB
  have st : ∀ {Ha Hb : Hp} {m : Nat} {dn dn' : Str → PyData → Prop}, Spk H nl (ds.map nameOf) rs dn m Ha D3 → Same Ha Hb → (∀ z r, dn' z r → dn z r) → Spk H nl (ds.map nameOf) rs dn' m Hb D3 := fun {Ha Hb m dn dn'} h s hd => by
    obtain ⟨kvs, e1, e2⟩ := h
    exact ⟨kvs, s _ _ e1, fun z hz => let ⟨l, ys, qs, w1, w2, w3, w4, w5, w6, w7, w8⟩ := e2 z hz; ⟨l, ys, qs, w1, w2, w3, s _ _ w4, w5, w6, w7, fun r h => w8 r (hd z r h)⟩⟩
  refine ⟨_, rfl, b, rfl, ⟨_, SqT.of hB6⟩, for_tup (K := K) (a := b) (xs := ys) (fun i σ H7 => ∃ v4 v5 : Option V, σ = [some (.ref x), some (.ref h), some (.ref a), some (.ref b), v4, v5, none] ∧ H7 x = some (.ins C dx fs4) ∧ H7 nl = some (.lst ((ds.map nameOf).map V.str)) ∧ (Spk H nl (ds.map nameOf) rs (fun z r => ownOf z r = true ∧ r ∈ rs.take i) (2 * i) H7 D3 ∧ H7 D2 = some (.dK kvD)) ∧ ∀ c o, c ≠ x → H c = some o → H7 c = some o)
    ⟨none, none, rfl, x4, m4, ⟨sp4, g4⟩, kp4⟩ (fun i σ H7 _ ⟨_, _, _, _, _, _, kp⟩ => SqT.of (kp _ _ bx hB)) ?_ ?_⟩
  · rintro i y σ H7 hy ⟨v4', v5', rfl, x7, m7, ⟨sp7, g7⟩, kp7⟩
    obtain ⟨r, hr', tr⟩ := alB.get hy
    have hil : i < ys.length := (List.getElem?_eq_some_iff.mp hy).1
    refine ⟨_, rfl, y, ds.map nameOf, r, rfl, tr.but nx kp7, (hg.rules r (List.mem_of_getElem? hr')).rule, fun l zs H8 s8 nl8 hl8 lz mz oz => ?_⟩
    refine ⟨l, rfl, ⟨_, SqL.of hl8⟩, for_list (K := K) (a := l) (xs := zs.map V.str) (fun j σ H9 => ∃ v4 : Option V, σ = [some (.ref x), some (.ref h), some (.ref a), some (.ref b), v4, some y, none] ∧ H9 x = some (.ins C dx fs4) ∧ H9 nl = some (.lst ((ds.map nameOf).map V.str)) ∧ H9 l = some (.lst (zs.map V.str)) ∧ (Spk H nl (ds.map nameOf) rs (fun z q => ownOf z q = true ∧ (q ∈ rs.take i ∨ q = r ∧ z ∈ zs.take j)) (2 * i + j) H9 D3 ∧ H9 D2 = some (.dK kvD)) ∧ (∀ z ∈ ds.map nameOf, ∀ kvs, H9 D3 = some (.dK kvs) → valV kvs (Sum.inr z) ≠ some (.ref l)) ∧ ∀ c o, c ≠ x → H c = some o → H9 c = some o)
      ⟨_, rfl, s8 _ _ x7, s8 _ _ m7, hl8, ⟨st sp7 s8 (fun z q ⟨h1, h2⟩ => ⟨h1, h2.resolve_right (fun h => absurd h.2 (by simp))⟩), s8 _ _ g7⟩, ?_, fun c o hc e => s8 _ _ (kp7 c o hc e)⟩ (fun j σ H9 _ ⟨_, _, _, _, q, _⟩ => SqL.of q) ?_ ?_⟩
    · intro z hz kvs e ev
      obtain ⟨kvs', e1, e2⟩ := sp7
      rw [s8 _ _ e1] at e
      cases e
      obtain ⟨l', ys', _, w1, _, _, w4, _⟩ := e2 z hz
      rw [w1] at ev
      cases ev
      rw [w4] at nl8
      cases nl8
    · rintro j z' σ H9 hj ⟨v4, rfl, x9, m9, l9, ⟨sp9, g9⟩, nl9, kp9⟩
      rw [List.getElem?_map] at hj
      obtain ⟨z, hz, rfl⟩ := Option.map_eq_some_iff.mp hj
      have hzm := mz z (List.mem_of_getElem? hz)
      have hjl : j < zs.length := (List.getElem?_eq_some_iff.mp hz).1
      obtain ⟨kvs, e1, e2⟩ := sp9
      obtain ⟨q, ws, _, w1, w2, w3, w4, w5, _⟩ := e2 z hzm
      have ql : q ≠ l := fun e => nl9 z hzm kvs e1 (by rw [← e]; exact w1)
      have qx : q ≠ x := ne_of w4 x9 (by intro z; cases z)
      have qD : D3 ≠ q := ne_of e1 w4 (by intro z; cases z)
      refine ⟨_, rfl, x, C, dx, fs4, _, rfl, x9, T.cl, T.nS, vS, _, rfl, D3, _, rfl, .inl ⟨_, .inr z, .inl e1, rfl, w1.symm⟩, .inl ⟨rfl, _, SqL.of w4⟩, _, rfl, q, _, _, rfl, rfl, w4, small1000 (by omega), ?_⟩
      refine ⟨_, rfl, by rw [upd_ne qx.symm]; exact x9, by rw [upd_ne w3.symm]; exact m9, by rw [upd_ne ql.symm]; exact l9, ⟨⟨kvs, by rw [upd_ne qD]; exact e1, fun z2 hz2 => ?_⟩, by rw [upd_ne (ne_of g9 w4 (by intro z; cases z))]; exact g9⟩, fun z2 hz2 kvs2 ek => ?_, fun c o hc e => ?_⟩
      · obtain ⟨q2, ws2, qs2, y1, y2, y3, y4, y5, y6, y7, y8⟩ := e2 z2 hz2
        by_cases c : q2 = q
        · subst c
          rw [w4] at y4
          cases y4
          refine ⟨q2, _, qs2 ++ [r], y1, y2, y3, upd_same, by simp; omega, y6.snoc tr, fun e he => ?_, fun e ⟨h1, h2⟩ => ?_⟩
          · rcases List.mem_append.mp he with he | he
            · exact y7 e he
            · rw [List.mem_singleton.mp he]
              exact List.mem_of_getElem? hr'
          · by_cases er : e = r
            · rw [er]
              exact List.mem_append.mpr (.inr (List.mem_singleton.mpr rfl))
            · exact List.mem_append.mpr (.inl (y8 e ⟨h1, .inl (h2.resolve_right fun h => er h.1)⟩))
        · refine ⟨q2, ws2, qs2, y1, y2, y3, by rw [upd_ne c]; exact y4, by omega, y6, y7, fun e ⟨h1, h2⟩ => y8 e ⟨h1, ?_⟩⟩
          rcases h2 with h2 | ⟨h2, h3⟩
          · exact .inl h2
          · rw [take_more hz] at h3
            rcases List.mem_append.mp h3 with h3 | h3
            · exact .inr ⟨h2, h3⟩
            · exfalso
              rw [List.mem_singleton.mp h3] at y1
              rw [w1] at y1
              exact c (V.ref.inj (Option.some.inj y1)).symm
      · rw [upd_ne qD] at ek
        exact nl9 z2 hz2 kvs2 ek
      · rw [upd_ne (ne_of_none e w2)]
        exact kp9 c o hc e
    · rintro σ H9 ⟨v4, rfl, x9, m9, l9, ⟨sp9, g9⟩, nl9, kp9⟩
      refine ⟨_, _, rfl, x9, m9, ⟨?_, g9⟩, kp9⟩
      obtain ⟨kvs, e1, e2⟩ := sp9
      refine ⟨kvs, e1, fun z hz => ?_⟩
      obtain ⟨q, ws, qs, w1, w2, w3, w4, w5, w6, w7, w8⟩ := e2 z hz
      rw [List.length_map] at w5 w8
      refine ⟨q, ws, qs, w1, w2, w3, w4, by omega, w6, w7, fun e ⟨h1, h2⟩ => w8 e ⟨h1, ?_⟩⟩
      rw [take_more hr'] at h2
      rcases List.mem_append.mp h2 with h2 | h2
      · exact .inl h2
      · have er := List.mem_singleton.mp h2
        refine .inr ⟨er, ?_⟩
        rw [List.take_length]
        exact oz z (by rw [← er]; exact h1)
  · rintro σ H7 ⟨v4', v5', rfl, x7, m7, ⟨sp7, g7⟩, kp7⟩
    refine k nl D2 b D3 H7 ⟨⟨dx, fs4, x7, k4, d4', r4', vS, n4, o4⟩, m7, ⟨kvD, g7, fun d hd => ?_⟩, ?_, ?_⟩ kp7
    · obtain ⟨v, h1, h2⟩ := f3 d hd
      exact ⟨v, h1, h2.but nx kp7⟩
    · exact Tr.but nx kp7 (.tup hB alB)
    · obtain ⟨kvs, e1, e2⟩ := sp7
      refine ⟨kvs, e1, fun z hz => ?_⟩
      obtain ⟨q, ws, qs, w1, w2, w3, w4, w5, w6, w7, w8⟩ := e2 z hz
      refine ⟨q, ws, qs, w1, w4, TrAll.but nx kp7 w6, w7, fun e he ho => w8 e ⟨ho, ?_⟩⟩
      rw [List.take_of_length_le (by omega)]
      exact he
end
end Pk
section
set_option maxHeartbeats 1000000
/-! fits_none, denies, gives. -/
namespace Pk
open PySem L2
abbrev sFitsNone : Stmt := topH 2
abbrev sDenies : Stmt := topH 3
abbrev sGives : Stmt := topH 4
abbrev sGivenByOne : Stmt := topH 5
abbrev sGiven : Stmt := topH 6
/-- a saying: the dial, least or most, the number -/
abbrev Say := Str × Str × Int
abbrev sayV (s : Say) : List V := [V.str s.1, V.str s.2.1, V.int s.2.2]
abbrev sayP (s : Say) : PyData := .tuple [.str s.1, .str s.2.1, .int s.2.2]
/-- a dial's ends -/
def endsD : PyData → Int × Int
  | .tuple [_, .int lo, .int hi, _, _, _] => (lo, hi)
  | _ => (0, 0)
def endsOf (ds : List PyData) (z : Str) : Int × Int := match ds.find? (fun d => nameOf d == z) with
  | some d => endsD d
  | none => (0, 0)
def leastS (s : Say) : Bool := decide (s.2.1 = "least")
/-- no number of the dial fits it -/
def fitN (e : Str → Int × Int) (s : Say) : Bool := if leastS s = true then decide ((e s.1).2 < s.2.2) else decide (s.2.2 < (e s.1).1)
/-- what the saying leaves of the dial -/
def cutE (e : Int × Int) (s : Say) : Int × Int := if leastS s = true then (if s.2.2 > e.1 then s.2.2 else e.1, e.2) else (e.1, if s.2.2 < e.2 then s.2.2 else e.2)
def denyS (e : Str → Int × Int) (s o : Say) : Bool := fitN e s || (decide (s.1 = o.1) && decide ((cutE (cutE (e s.1) s) o).2 < (cutE (cutE (e s.1) s) o).1))
def giveS (s o : Say) : Bool := decide (s.1 = o.1) && (decide (s.2.1 = o.2.1) && (if leastS s = true then decide (o.2.2 ≤ s.2.2) else decide (s.2.2 ≤ o.2.2)))
/-- a saying of a house -/
structure SayH (ns : List Str) (s : Say) : Prop where
  nm : s.1 ∈ ns
  so : s.2.1 ∈ sorts2
/-- the dial of a name -/
theorem dial_of {H : Hp} {dl : Addr} {ds : List PyData} {z : Str} (D : Dls H dl ds) (hz : z ∈ ds.map nameOf) (hg : ∀ d ∈ ds, DialG d) : ∃ (kvs : List (Key × V)) (b : Addr) (w : Str) (u dn : Int), H dl = some (.dK kvs) ∧ valV kvs (Sum.inr z) = some (.ref b) ∧ H b = some (.tup [.str z, .int (endsOf ds z).1, .int (endsOf ds z).2, .str w, .int u, .int dn]) := by
  obtain ⟨kvs, hk, hv⟩ := D
  cases e : ds.find? (fun d => nameOf d == z) with
  | none =>
    exfalso
    obtain ⟨d, hd, rfl⟩ := List.mem_map.mp hz
    have := List.find?_eq_none.mp e d hd
    simp at this
  | some d =>
    have hd := List.mem_of_find?_eq_some e
    have hn : nameOf d = z := by
      have := List.find?_some e
      simpa using this
    obtain ⟨v, h1, h2⟩ := hv d hd
    obtain ⟨b, nm, way, lo, hi', up, dn, eb, hb0, _, _, _, _, ed⟩ := dial_tup h2 (hg d hd)
    rw [hn, eb] at h1
    have ez : z = nm := by rw [← hn, ed]; rfl
    have ee : endsOf ds z = (lo, hi') := by
      unfold endsOf
      rw [e, ed]
      rfl
    rw [ee]
    subst ez
    exact ⟨kvs, b, way, up, dn, hk, h1, hb0⟩
/-- what the walk knows of a Layout and of a saying of its house -/
structure LS (C : Addr) (H : Hp) (lx nl dl rb sp : Addr) (ds rs : List PyData) : Prop where
  L : LayF C H lx nl dl rb sp ds rs
  g : HouseG ds rs
def spFits (C : Addr) : Sp := fun vs H Q _ => ∃ (lx nl dl rb sp a : Addr) (ds rs : List PyData) (s : Say), vs = [.ref lx, .ref a] ∧ LS C H lx nl dl rb sp ds rs ∧ H a = some (.tup (sayV s)) ∧ SayH (ds.map nameOf) s ∧ Q (.bl (fitN (endsOf ds) s)) H
section
variable {P : Program} {w : World} {K : PySem.W.Frag} {mg : Str → Option Value} {base : Heap}
theorem scFitsNone : FnScope ["layout", "saying", "name", "sort", "i", "dial"] ["layout", "saying"] (defScope sFitsNone) := ⟨rfl, rfl, rfl, by decide +kernel, rfl, by decide +kernel, by decide +kernel⟩
theorem dec_least (s : Say) : decide (V.str s.2.1 = V.str "least") = leastS s := by
  unfold leastS
  rw [Bool.eq_iff_iff, decide_eq_true_eq, decide_eq_true_eq]
  exact ⟨fun h => V.str.inj h, fun h => by rw [h]⟩
theorem ok_fitsNone {f C : Addr} {fd : FuncData} (F : Fun K "fits_none" "fits_none" sFitsNone f fd) (T : LayTxt K mg C) : FnOk P w K mg base CX0 1 f fd ["layout", "saying"] (spFits C) := by
  refine F.ok scFitsNone (fun vs H Q E h => ?_) (fun cdv A outer s H vs Q E hr h => ?_)
  · obtain ⟨lx, nl, dl, rb, sp, a, ds, rs, s, rfl, _⟩ := h
    rfl
  obtain ⟨lx, nl, dl, rb, sp, a, ds, rs, y, rfl, ls, ha, hy, k⟩ := h
  have hu := hu_of hr
  refine ⟨_, pss_cons (ps_asg (pv 1) (pg_tup (by rfl) (pgs_cons (pg_name (i := 2) scFitsNone.nd rfl (.inl rfl)) <| pgs_cons (pg_name (i := 3) scFitsNone.nd rfl (.inl rfl)) <| pgs_cons (pg_name (i := 4) scFitsNone.nd rfl (.inl rfl)) pgs_nil))) <|
    pss_cons (ps_set (i := 5) scFitsNone.nd rfl (.inl rfl) (pe_dget hu (pe_fld (pv 0) rfl) (pv 2) (fun _ _ => rfl))) <|
    pss_one (ps_ret (pe_ifExp (pt_cmpR op_eq (pv 3) pe_str (nomark _)) (pe_cmpR op_gt (pv 4) (pe_ix ix_tup (pv 5) pe_int (fun _ _ => rfl)) (nomark _)) (pe_cmpR op_lt (pv 4) (pe_ix ix_tup (pv 5) pe_int (fun _ _ => rfl)) (nomark _)))), ?_⟩
  obtain ⟨dx, fs, l1, l2, l3, l4, l5, l6⟩ := ls.L.ob
  obtain ⟨kvs, b, wy, u, dn, hk, hv, hb⟩ := dial_of ls.L.dl hy.nm ls.g.dials
  refine ⟨_, rfl, a, _, rfl, SqT.of ha, rfl, _, _, rfl, _, _, rfl, _, _, rfl, rfl, ?_⟩
  refine ⟨_, rfl, lx, C, dx, fs, _, rfl, l1, T.cl, T.nD, l3, _, rfl, dl, _, rfl, .inl ⟨kvs, Sum.inr y.1, .inl hk, rfl, hv.symm⟩, ?_⟩
  refine ⟨_, rfl, rfl, _, rfl, ?_⟩
  rw [dec_least]
  unfold fitN at k
  cases c : leastS y with
  | true =>
    rw [c, if_pos rfl] at k
    exact iteT ⟨_, rfl, _, rfl, b, _, _, _, rfl, rfl, SqT.of hb, rfl, _, _, rfl, rfl, k⟩
  | false =>
    rw [c, if_neg Bool.false_ne_true] at k
    exact iteF ⟨_, rfl, _, rfl, b, _, _, _, rfl, rfl, SqT.of hb, rfl, _, _, rfl, rfl, k⟩
end
end Pk
end
section
set_option maxHeartbeats 2000000
/-! try .. except X as n, the error kept behind the suite. -/
namespace Pk
open PySem PySem.Spec PyProof.Rows L2
/-- at a: an error that was caught, of the class cls, its dict at d -/
def keptX (a : Addr) (cls : Value) (d : Option Addr) : HO := .ext fun h => ∃ (oe : Obj) (vs : Array Value), h.get? a = some oe ∧ Zc cls d oe ∧ oe.data = .fields vs
theorem keptX_ok {P : Program} {w : World} {H : Hp} {h : Heap} {a : Addr} {cls : Value} {d : Option Addr} {oe : Obj} {vs : Array Value} (e : h.get? a = some oe) (z : Zc cls d oe) (hd : oe.data = .fields vs) : ObjOk P w H h a (keptX a cls d) :=
  ⟨⟨oe, vs, e, z, hd⟩, ⟨oe, e⟩, fun _ _ ⟨o, v, q, r⟩ k => ⟨o, v, k o q, r⟩⟩
section
variable {X : Cx} {pins : List (Addr × Obj)} {σ : L2.St} {H : Hp} {s : Shared}
/-- what came since the entry may be tracked from now on -/
theorem track {a : Addr} {o : HO} (I : L2.Inv X pins σ H s) (na : H a = none) (n0 : X.s_0.heap.get? a = none) (nL : a ≠ X.env.locals) (nC : ∀ x c, X.env.cells.lookup x = some c → c ≠ a) (np : ∀ p ∈ X.pn ++ pins, p.1 ≠ a) (new : ObjOk X.prog X.w (upd H a o) s.heap a o) : L2.Inv X pins σ (upd H a o) s where
  ok := I.ok
  os := I.os
  bare := I.bare
  base := ⟨I.base.keep, I.base.slot, fun b u e n hx => by
      rw [upd_ne (fun z => by rw [z, n0] at e; cases e)]
      exact I.base.free b u e n hx, I.base.there, fun b xs e => by
      have q := I.base.tups b xs e
      rw [upd_ne (ne_of_none q na)]
      exact q, fun b u v e => by
      have q := I.base.frzs b u v e
      rw [upd_ne (ne_of_none q na)]
      exact q, fun b ps e => by
      obtain ⟨more, q⟩ := I.base.tbls b ps e
      exact ⟨more, by rw [upd_ne (ne_of_none q na)]; exact q⟩⟩
  loc := I.loc
  cell := I.cell
  free := by rw [upd_ne nL.symm]; exact I.free
  freeC := fun x c e => by rw [upd_ne (nC x c e)]; exact I.freeC x c e
  pin := fun p hp => by
    obtain ⟨h1, h2, h3⟩ := I.pin p hp
    exact ⟨h1, by rw [upd_ne (np p hp)]; exact h2, h3⟩
  hok := I.hok.laidN (fun _ _ e => e) na new
  len := I.len
end
def wKeep (K : PySem.W.Frag) (c : Value) (i : Nat) (ts : Addr → Value → Option Addr → TS) (Wout : WX) (D : Ends) : WX := fun cls d σ H =>
  ∃ b, PySem.W.exmOne K cls c = some b ∧ (b = true → ∀ a, H a = none → ts a cls d { nx := fun σ' H' => H' a = none → D.nx (σ'.set i none) (upd H' a (keptX a cls d)), rt := fun _ _ => False, bk := fun _ _ => False, ct := fun _ _ => False } (σ.set i (some (.ref a))) H) ∧ (b = false → Wout cls d σ H)
section
variable {X : Cx} {x n : Str} {c : Value} {i : Nat} {body suite : List Stmt} {b0 : Stmt} {np pos pos' : Pos} {tb : WX → TS} {ts : Addr → Value → Option Addr → TS} {Wout : WX}
theorem ps_try_keep (hex : X.ex = []) (hs : X.stack = X.env :: X.outer) (hf : X.env.frame = some X.env.locals) (hN : X.N.Nodup) (hi : X.N[i]? = some n) (hln : X.env.kindOf n = some .local) (hc : Names X x c) (tk : Takes X Wout)
    (hb : ∀ (W : WX) (pn : List (Addr × Obj)) (xe : Value → Shared → Prop), Takes (X.tr pn xe) W → PassesOwn (model X.prog X.w) X.A X.env xe → PSs (X.tr pn xe) body (tb W))
    (hsu : ∀ (a : Addr) (oe : Obj) (cls : Value) (d : Option Addr) (pn : List (Addr × Obj)), Zc cls d oe → (∃ vs, oe.data = .fields vs) → PSs (X.suite a ((a, oe) :: pn)) (b0 :: suite) (ts a cls d)) :
    PS X (.Try body [.ExceptHandler (some (.Name x np)) (some n) (b0 :: suite) pos'] [] [] pos) (fun D σ H => tb (wKeep X.K c i ts Wout D) D σ H) := by
  refine ⟨fun pins s σ H D I h => ?_⟩
  have ok := I.ok
  have hfr : X.A.frames = some (X.env :: X.outer) := by rw [ok.frames, hs]
  refine wpAny_Try_except (wpAny_mono ((hb (wKeep X.K c i ts Wout D) (X.pn ++ pins) (fun e u1 => wpAny (model X.prog X.w) X.A (noteFrame e X.env) (fun _ u2 => wpAny (model X.prog X.w) X.A (setFlight e none) (fun _ u3 =>
    wpAny (model X.prog X.w) X.A (handleBy e X.env [.ExceptHandler (some (.Name x np)) (some n) (b0 :: suite) pos']) (SP X pins D) X.xe u3) X.xe u2) X.xe u1) (fun u s' xx => ?_) PassesOwn.looking).run [] s σ H D (I.toTry _) h) (fun f s1 hsp => ?_) (fun e s1 he => he))
  · obtain ⟨a, B, sI, pins', σ', H', cls, d, rfl, J', nb, up, sky, na, os, ag, b, hb1, hyes, hno⟩ := xx
    have J : L2.Inv X pins σ' H' sI := J'.ofTry ok
    show wpAny (model X.prog X.w) X.A (noteFrame (.ref a) X.env) _ _ _
    refine Sky.land Zc.steady hfr hf (show Sky B (X.env :: X.outer) a (Zc cls d) X.env.locals s'.heap by rw [← hs]; exact sky) fun h3 fl3 up3 => ?_
    have J3 : L2.Inv X pins σ' H' { s' with heap := h3 } := J.landed nb fl3.1 (up.trans up3) os ag
    obtain ⟨oe3, vs3, he3, hz3, hd3⟩ := fl3.there
    have nfr : a ∉ frs (X.env :: X.outer) := fun hm => by
      obtain ⟨_, o', e', hnf⟩ := fl3.2.2.1.mem hm
      rw [he3] at e'
      cases e'
      exact hnf _ hd3
    have nI : sI.heap.get? a = none := by
      cases e : sI.heap.get? a with
      | none => rfl
      | some o =>
        have q := nb a o e (by rw [hs]; exact nfr)
        rw [fl3.2.1] at q
        cases q
    have n0 : X.s_0.heap.get? a = none := by
      cases e : X.s_0.heap.get? a with
      | none => rfl
      | some o =>
        obtain ⟨o', q⟩ := J.base.there a o e (by rw [hex]; simp)
        rw [nI] at q
        cases q
    have nP : ∀ p ∈ X.pn ++ pins, p.1 ≠ a := fun p hp z => by
      have q := (J.pin p hp).1
      rw [z, nI] at q
      cases q
    have nL : a ≠ X.env.locals := fun z => nfr (List.mem_filterMap.mpr ⟨X.env, List.mem_cons_self, by rw [hf, z]⟩)
    have nF : a ∉ X.fs := fun hm => by
      obtain ⟨e, he, q⟩ := List.mem_filterMap.mp hm
      exact nfr (List.mem_filterMap.mpr ⟨e, List.mem_cons_of_mem _ he, q⟩)
    have S3 := J3.suite he3 hd3 na nL nF
    refine wpAny_handleBy_cons (codeAny_handlers_test ?_) (by intro q; cases q)
    have LT : PySem.W.Looks (model X.prog X.w) h3 (typeOf (.ref a)) cls := fun A Q E u k q => wpAny_typeOf_ref (k _ _ he3) (by rw [hz3.1]; exact q)
    have LM := PySem.W.exm_one (M := model X.prog X.w) J3.kIn LT hb1
    have test : ∀ {Q : Value → Shared → Prop} {E : Value → Shared → Prop}, Q c { s' with heap := h3 } → wpAny (model X.prog X.w) (X.A.mark (some (.ref a))) (eval (.Name x np) X.env) Q E { s' with heap := h3 } := fun {Q E} q => by
      obtain ⟨hg, hdbg, hm | ⟨hm, hv, hnn⟩⟩ := hc
      · exact ld_glob (X := X.suite a ((a, oe3) :: (X.pn ++ pins))) S3 hg hm q hdbg
      · exact ld_blt (X := X.suite a ((a, oe3) :: (X.pn ++ pins))) S3 hg hm hv q hnn hdbg
    refine test (LM.here ?_)
    cases b with
    | true =>
      refine codeAny_handlers_suite_as (HandSPX.lands_againZ fl3 fun h4 fl4 up4 => ?_)
      have J4 : L2.Inv X pins σ' H' { s' with heap := h4 } := J.landed nb fl4.1 ((up.trans up3).trans up4) os ag
      obtain ⟨oe4, vs4, he4, hz4, hd4⟩ := fl4.there
      have S4 := J4.suite he4 hd4 na nL nF
      refine store_ok (X := X.suite a ((a, oe4) :: (X.pn ++ pins))) (v := .ref a) S4 hN hi (.inl hln) rfl (fun s5 S5 => ?_) (.inr hln)
      refine wpAny_mono ((hsu a oe4 cls d (X.pn ++ pins) hz4 ⟨_, hd4⟩).run [] s5 _ H' _ S5 (hyes rfl a na)) (fun f s6 hsp => ?_) (fun _ _ z => False.elim z)
      cases f with
      | next =>
        obtain ⟨σ6, H6, S6, q6⟩ := hsp
        obtain ⟨e6, n6, _⟩ := S6.pin (a, oe4) (List.mem_append_left _ List.mem_cons_self)
        have I6 := S6.unsuite ok
        have I7 := track (o := keptX a cls d) I6 n6 n0 nL (fun y cc hy z => by
          obtain ⟨v, o, h1, h2⟩ := I6.cell y cc hy
          rw [z] at h1
          have h1' : s6.heap.get? a = some o := h1
          rw [show s6.heap.get? a = some oe4 from e6] at h1'
          cases h1'
          rw [hd4] at h2
          cases h2) nP (keptX_ok e6 hz4 hd4)
        exact gone_ok I7 hN hi hln fun s7 J7 => ⟨_, _, J7, q6 n6⟩
      | brk =>
        obtain ⟨_, _, _, q6⟩ := hsp
        exact q6.elim
      | cont =>
        obtain ⟨_, _, _, q6⟩ := hsp
        exact q6.elim
      | ret u =>
        obtain ⟨_, _, _, _, _, q6⟩ := hsp
        exact q6.elim
    | false =>
      show wpAny _ X.A (handleBy (.ref a) X.env []) _ _ _
      refine wpAny_handleBy_nil ?_
      obtain ⟨k1, k2, k3, oe, vs, T, oT, ts', he, hz, hd, h1, hr⟩ := id fl3
      unfold PySem.passOn
      refine wpAny_bind (wpAny_field he hd h1 ?_)
      rw [if_neg (show ¬ ((Value.ref T == Value.none) = true) from by simp)]
      have fin : wpAny (model X.prog X.w) X.A (setFlight (.ref a) X.env.frame) (fun _ u4 => wpAny (model X.prog X.w) X.A (throw (.ref a) : Sem Flow) (SP X pins D) X.xe u4) X.xe { s' with heap := h3 } := by
        rw [hf]
        refine HandSPX.setFlight_upZ fl3 fun h4 hh4 up4 => wpAny_throw (tk _ _ ?_)
        exact ⟨a, B, sI, pins, σ', H', cls, d, rfl, J, nb, (up.trans up3).trans up4, .inr (.inr (by rw [hs]; exact hh4)), na, os, ag, hno rfl⟩
      first
        | exact wpAny_bind (wpAny_pure (wpAny_bind fin))
        | exact wpAny_bind fin
  · cases f with
    | next =>
      obtain ⟨σ', H', J', q⟩ := hsp
      exact wpAny_execs_nil ⟨σ', H', J'.ofTry ok, q⟩
    | brk =>
      obtain ⟨σ', H', J', q⟩ := hsp
      exact ⟨σ', H', J'.ofTry ok, q⟩
    | cont =>
      obtain ⟨σ', H', J', q⟩ := hsp
      exact ⟨σ', H', J'.ofTry ok, q⟩
    | ret u =>
      obtain ⟨v, σ', H', J', r, q⟩ := hsp
      exact ⟨v, σ', H', J'.ofTry ok, r, q⟩
end
section
variable {X : Cx}
/-- what isinstance asks of an error that was kept -/
theorem kept_kit {pz : List (Addr × Obj)} {σ : L2.St} {H : Hp} {s : Shared} {a C : Addr} (I : L2.Inv X pz σ H s) (e : H a = some (keptX a (.ref C) none)) (TT : ExcC X.K C) : ∃ P : Heap → Prop, PySem.W.KitX X.K (.ref a) (.ref C) P ∧ P s.heap := by
  have hcl : (PySem.W.clsIn X.K C).isSome = true := by
    obtain ⟨cd, hc, _⟩ := PySem.W.any_some TT.hd
    rw [hc]
    rfl
  obtain ⟨⟨oe, vs, ho, hy, hd⟩, _, _⟩ := I.hok a _ e
  refine ⟨_, PySem.W.kitx_exc (ox := oe) (od := none) hcl TT.hg TT.hk TT.hs TT.ha TT.hn TT.ht TT.hm, ?_⟩
  obtain ⟨oc, oq, oda, osl⟩ := oe
  obtain ⟨h1, h2⟩ := hy
  dsimp only at h1 h2 hd
  subst h1 h2 hd
  exact ⟨ho, rfl, rfl, trivial⟩
theorem call_isK : CallR X (.builtin "isinstance") (fun xs H Q => ∃ (a C : Addr) (c : V) (u : Value) (b : Bool), xs = [.ref a, c] ∧ H a = some (keptX a (.ref C) none) ∧ ExcC X.K C ∧ ClsV c u ∧ PySem.W.kitOne X.K (.ref C) u = some b ∧ Q (.bl b) H) := by
  intro pz s σ H xs ua Q I r h
  obtain ⟨a, C, c, u, b, rfl, ea, TT, k, e, q⟩ := h
  obtain ⟨u1, u2, rfl, ra, rb⟩ := vals2 r
  have e2 := k.eq rb
  subst e2
  cases (show u1 = Value.ref a from ra)
  obtain ⟨P, Z, p⟩ := kept_kit I ea TT
  exact PySem.W.kia_one Z I.kIn p e (fun z => nomatch z) fun tz => ⟨.bl b, H, I.tok tz, rfl, q⟩
theorem call_isKT : CallR X (.builtin "isinstance") (fun xs H Q => ∃ (a C : Addr) (tp : Addr) (cs : List V) (ws : List Value) (b : Bool), xs = [.ref a, .ref tp] ∧ H a = some (keptX a (.ref C) none) ∧ ExcC X.K C ∧ H tp = some (.tup cs) ∧ Paired ClsV cs ws ∧ PySem.W.kitAny X.K (.ref C) ws = some b ∧ Q (.bl b) H) := by
  intro pz s σ H xs ua Q I r h
  obtain ⟨a, C, tp, cs, ws, b, rfl, ea, TT, htp, k, e, q⟩ := h
  obtain ⟨u1, u2, rfl, ra, rb⟩ := vals2 r
  cases (show u2 = Value.ref tp from rb)
  cases (show u1 = Value.ref a from ra)
  obtain ⟨P, Z, p⟩ := kept_kit I ea TT
  obtain ⟨_, itz, rz, o, h1, h2, n, h3⟩ := (show ObjOk X.prog X.w H s.heap tp (.tup cs) from I.hok tp _ htp)
  have e3 := ClsV.all k rz
  subst e3
  obtain ⟨oc, oq, dt, sl⟩ := o
  simp only at h2 h3
  subst h2 h3
  exact PySem.W.kia_tup Z I.kIn p h1 e (fun z => nomatch z) fun tz => ⟨.bl b, H, I.tok tz, rfl, q⟩
end
end Pk
end
/-! by_names, broken_rules, stands, check_house. -/
namespace Pk
open PySem L2
abbrev sCheckH : Stmt := topH 37
/-- all stays, but these tables may grow -/
def GrS (Ps : List Addr) (H H' : Hp) : Prop := (∀ P ∈ Ps, GxR.TabG H' P) ∧ ∀ b o, b ∉ Ps → H b = some o → H' b = some o
def Tabs (Ps : List Addr) (H : Hp) : Prop := ∀ P ∈ Ps, GxR.TabG H P
theorem Tabs.not {Ps : List Addr} {H : Hp} {a : Addr} {o : HO} (t : Tabs Ps H) (h : H a = some o) (n : ∀ q, o ≠ .tbl q) : a ∉ Ps := fun hm => by
  obtain ⟨ps, z, _⟩ := t a hm
  rw [h] at z
  cases z
  exact n ps rfl
theorem GrS.refl {Ps : List Addr} {H : Hp} (t : Tabs Ps H) : GrS Ps H H := ⟨t, fun _ _ _ e => e⟩
theorem GrS.trans {Ps : List Addr} {H H1 H2 : Hp} (a : GrS Ps H H1) (b : GrS Ps H1 H2) : GrS Ps H H2 := ⟨b.1, fun c o hc e => b.2 c o hc (a.2 c o hc e)⟩
theorem GrS.of {Ps : List Addr} {P : Addr} {H H' : Hp} (hP : P ∈ Ps) (t : Tabs Ps H) (g : Gr P H H') : GrS Ps H H' := ⟨fun Q hQ => by
  by_cases e : Q = P
  · rw [e]; exact g.1
  · obtain ⟨ps, z, y⟩ := t Q hQ
    exact ⟨ps, g.2 _ _ e z, y⟩, fun b o hb e => g.2 b o (fun z => hb (by rw [z]; exact hP)) e⟩
theorem GrS.same {Ps : List Addr} {H H' : Hp} (t : Tabs Ps H) (s : Same H H') : GrS Ps H H' := ⟨fun Q hQ => let ⟨ps, z, y⟩ := t Q hQ; ⟨ps, s _ _ z, y⟩, fun b o _ e => s b o e⟩
theorem GrS.at {Ps : List Addr} {H H' : Hp} {a : Addr} {o : HO} (g : GrS Ps H H') (t : Tabs Ps H) (h : H a = some o) (n : ∀ q, o ≠ .tbl q) : H' a = some o := g.2 a o (t.not h n) h
mutual
theorem Tr.grs {Ps : List Addr} {H H' : Hp} (t : Tabs Ps H) (g : GrS Ps H H') : ∀ {v : V} {d : PyData}, Tr H v d → Tr H' v d
  | _, _, .non => .non
  | _, _, .bl b => .bl b
  | _, _, .int i => .int i
  | _, _, .str x => .str x
  | _, _, .lst h a => .lst (g.at t h (by intro q z; cases z)) (TrAll.grs t g a)
  | _, _, .tup h a => .tup (g.at t h (by intro q z; cases z)) (TrAll.grs t g a)
  | _, _, .dct h n e a => .dct (g.at t h (by intro q z; cases z)) n e (TrAll.grs t g a)
theorem TrAll.grs {Ps : List Addr} {H H' : Hp} (t : Tabs Ps H) (g : GrS Ps H H') : ∀ {vs : List V} {ds : List PyData}, TrAll H vs ds → TrAll H' vs ds
  | _, _, .nil => .nil
  | _, _, .cons h u => .cons (Tr.grs t g h) (TrAll.grs t g u)
end
end Pk
/-! The law's own: the pen, and what the law says of its things. -/
namespace Pk
open PySem L2
/-- _law_pen: a new pen -/
theorem canInts : ∀ ns : List Int, PyData.canLayAll0 (ns.map PyData.int) = true
  | [] => by simp only [List.map_nil, PyData.canLayAll0]
  | n :: ns => by simp [PyData.canLayAll0, PyData.canLay0, canInts ns]
theorem depthInts : ∀ ns : List Int, PyData.depthAll (ns.map PyData.int) = 0
  | [] => by simp only [List.map_nil, PyData.depthAll]
  | n :: ns => by simp [PyData.depthAll, PyData.depth, depthInts ns]
theorem shapedInts (ns : List Int) : SeqAt.shaped (.list (ns.map PyData.int)) = true := by
  unfold SeqAt.shaped
  rw [Bool.and_eq_true]
  refine ⟨by simp only [PyData.canLay0]; exact canInts ns, decide_eq_true ?_⟩
  simp only [PyData.depth, depthInts]
  omega
theorem dpInts {K : PySem.W.Frag} {H : Hp} : ∀ ns : List Int, DpAll K H (ns.map V.int) (ns.map PyData.int)
  | [] => .nil
  | n :: ns => .cons (.int n) (dpInts ns)
theorem eqvNil (ns : List Int) : PyData.eqv (.list (ns.map PyData.int)) (.list []) = ns.isEmpty := by
  cases ns with
  | nil => rfl
  | cons n ns => rfl
def spPenL (K : PySem.W.Frag) : Sp := fun vs H Q _ => ∃ (a : Addr) (ns : List Int), vs = [.ref a] ∧ SqL K H a (ns.map V.int) ∧ ns.length ≤ 63 ∧
  ∀ (p c : Addr) (H' : Hp), PenC H' p c 0 → Same H H' → Q (.ref p) H'
theorem tab_sb {H H' : Hp} {Pt p c : Addr} {n : Int} (t : GxR.TabG H Pt) (P : PenC H p c n) (s : Sb p H H') : GxR.TabG H' Pt := by
  obtain ⟨ps, h1, h2⟩ := t
  obtain ⟨kv, e⟩ := P.atp
  exact ⟨ps, s.to (ne_of h1 e (by intro z; cases z)) h1, h2⟩
theorem PenC.al {H : Hp} {p c : Addr} {n : Int} (P : PenC H p c n) : Al p [p] H := ⟨List.mem_cons_self, fun b hb => by
  rw [List.mem_singleton.mp hb]
  obtain ⟨kv, e⟩ := P.atp
  exact ⟨_, e⟩⟩

theorem Tabs.same {Ps : List Addr} {H H' : Hp} (t : Tabs Ps H) (s : Same H H') : Tabs Ps H' := fun P hP => let ⟨ps, h1, h2⟩ := t P hP; ⟨ps, s _ _ h1, h2⟩
theorem Tabs.sb {Ps : List Addr} {H H' : Hp} {p c : Addr} {n : Int} (t : Tabs Ps H) (P : PenC H p c n) (s : Sb p H H') : Tabs Ps H' := fun Q hQ => tab_sb (t Q hQ) P s
theorem PenC.grs {Ps : List Addr} {H H' : Hp} {p c : Addr} {n : Int} (P : PenC H p c n) (t : Tabs Ps H) (g : GrS Ps H H') : PenC H' p c n := by
  obtain ⟨ns, u, r, h, e⟩ := P
  exact ⟨ns, u, r, ⟨g.at t h.at_ (by intro q z; cases z), g.at t h.cells (by intro q z; cases z), h.ne, h.len, h.t0, h.r0⟩, e⟩
/-- a list or a tuple of numbers -/
theorem trIntsAll {H : Hp} : ∀ is : List Int, TrAll H (is.map V.int) (is.map PyData.int)
  | [] => .nil
  | i :: is => .cons (.int i) (trIntsAll is)
theorem bulkInts : ∀ is : List Int, PyData.bulkAll (is.map PyData.int) = is.length
  | [] => by simp [PyData.bulkAll]
  | i :: is => by
    simp only [List.map_cons, PyData.bulkAll, PyData.bulk, List.length_cons, bulkInts is]
    omega
theorem lvInts : ∀ {is : List Int}, (∀ j ∈ is, -(5 * farS) ≤ j ∧ j ≤ 5 * farS) → lvs 0 (is.map PyData.int) = true
  | [], _ => rfl
  | i :: is, h => by
    have h0 := h i List.mem_cons_self
    have f : farS = 1000000000000000000 := rfl
    have g := greatG
    rw [List.map_cons, lvs, int_lv (i := i) (by omega) (by omega), lvInts fun j hj => h j (List.mem_cons_of_mem _ hj)]
    rfl
/-- a thing that the law may hand in -/
structure ThingN (d : PyData) : Prop where
  lv : lv 5 d = true
  bulk : d.bulk ≤ 30000
  depth : d.depth ≤ 50
theorem lv_tup {k : Nat} {ds : List PyData} : lv k (.tuple ds) = lvs k ds := by rw [lv]
theorem lv_lst {k : Nat} {ds : List PyData} : lv k (.list ds) = lvs k ds := by rw [lv]
theorem ints_tup {is : List Int} (hl : is.length ≤ 100) (h : ∀ j ∈ is, -(5 * farS) ≤ j ∧ j ≤ 5 * farS) : Pk.lv 0 (.tuple (is.map PyData.int)) = true ∧ (PyData.tuple (is.map PyData.int)).bulk ≤ 100 ∧ (PyData.tuple (is.map PyData.int)).depth ≤ 1 := by
  refine ⟨by rw [lv_tup]; exact lvInts h, ?_, ?_⟩
  · simp only [PyData.bulk, bulkInts]
    omega
  · simp only [PyData.depth, depthInts]
    omega
theorem ThingN.tup {is : List Int} (hl : is.length ≤ 100) (h : ∀ j ∈ is, -(5 * farS) ≤ j ∧ j ≤ 5 * farS) : ThingN (.tuple (is.map PyData.int)) := by
  obtain ⟨h1, h2, h3⟩ := ints_tup hl h
  exact ⟨lv_le (by omega) h1, by omega, by omega⟩
theorem lv_les {is : List Int} (h : ∀ j ∈ is, -(5 * farS) ≤ j ∧ j ≤ 5 * farS) : lvs 5 (is.map PyData.int) = true := by
  have z := lv_le (j := 0) (k := 5) (by omega) (d := .tuple (is.map PyData.int)) (by rw [lv_tup]; exact lvInts h)
  rw [lv_tup] at z
  exact z
theorem ThingN.lst {is : List Int} (hl : is.length ≤ 100) (h : ∀ j ∈ is, -(5 * farS) ≤ j ∧ j ≤ 5 * farS) : ThingN (.list (is.map PyData.int)) := by
  refine ⟨by rw [lv_lst]; exact lv_les h, ?_, ?_⟩
  · simp only [PyData.bulk, bulkInts]
    omega
  · simp only [PyData.depth, depthInts]
    omega

theorem noInts : ∀ is : List Int, PyData.hasDictAll (is.map PyData.int) = false
  | [] => by simp [PyData.hasDictAll]
  | i :: is => by simp [PyData.hasDictAll, PyData.hasDict, noInts is]
theorem pssW {X : Cx} {b : List Stmt} {t u : TS} (h : PSs X b t) (i : ∀ D σ H, u D σ H → t D σ H) : PSs X b u := ⟨fun pins s σ H D I q => h.run pins s σ H D I (i D σ H q)⟩
section
variable {P : Program} {w : World} {K : PySem.W.Frag} {mg : Str → Option Value} {base : Heap}
theorem cutInts (ns : List Int) (lo hi : Option Int) : ∃ ms : List Int, cutV (ns.map V.int) lo hi = ms.map V.int ∧ ms.length ≤ ns.length := by
  have e : cutV (ns.map V.int) lo hi = ((ns.drop (HT.sIx (ns.map V.int).length 0 lo)).take (HT.sIx (ns.map V.int).length (ns.map V.int).length hi - HT.sIx (ns.map V.int).length 0 lo)).map V.int := by
    unfold cutV
    simp only [List.map_take, List.map_drop]
  refine ⟨_, e, ?_⟩
  simp only [List.length_take, List.length_drop]
  omega
theorem scPen : FnScope ["_law_script"] ["_law_script"] (defScope sPen) := ⟨rfl, rfl, rfl, by decide +kernel, rfl, by decide +kernel, by decide +kernel⟩
theorem ok_pen {f : Addr} {fd : FuncData} (F : Fun K "_law_pen" "_law_pen" sPen f fd) (B : Blt mg) : FnOk P w K mg base CX0 1 f fd ["_law_script"] (spPenL K) := by
  refine F.ok scPen (fun vs H Q E h => ?_) (fun cdv A outer s H vs Q E hr h => ?_)
  · obtain ⟨a, ns, rfl, _⟩ := h
    rfl
  obtain ⟨a, ns, rfl, hS, hl, k⟩ := h
  refine ⟨_, pss_one (ps_ret (pe_lst (pa_cons (pe_callTy call_list_of (by rfl) B.list (by decide +kernel) (pa_cons (pe_slice sl_list (pv 0) po_none (po_some pe_int)) pa_nil)) (pa_cons pe_int (pa_cons pe_int pa_nil))))), ?_⟩
  obtain ⟨ms, em, hm⟩ := cutInts ns none (some 63)
  refine ⟨_, rfl, 63, rfl, a, _, rfl, hS, fun q hq => ?_⟩
  have s2 := sameNew hq (.lst (cutV (ns.map V.int) none (some 63)))
  refine ⟨q, _, rfl, .inl (SqL.of upd_same), fun c hc => ?_⟩
  have s3 := sameNew hc (.lst (cutV (ns.map V.int) none (some 63)))
  refine ⟨by show 3 ≤ sizeLine; decide, fun p hp => ?_⟩
  have s4 := sameNew hp (.lst (penL c 0 0))
  have cp : c ≠ p := fun z => by
    rw [← z, upd_same] at hp
    cases hp
  refine k p c _ ⟨ms, 0, 0, ⟨upd_same, ?_, cp, by omega, by omega, by omega⟩, by omega⟩ (s2.trans (s3.trans s4))
  rw [upd_ne cp, upd_same, em]
end
end Pk
section
set_option maxHeartbeats 1000000
/-! denies, gives. -/
namespace Pk
open PySem L2
def spDenies (C : Addr) : Sp := fun vs H Q _ => ∃ (lx nl dl rb sp a b : Addr) (ds rs : List PyData) (s o : Say), vs = [.ref lx, .ref a, .ref b] ∧ LS C H lx nl dl rb sp ds rs ∧ H a = some (.tup (sayV s)) ∧ H b = some (.tup (sayV o)) ∧ SayH (ds.map nameOf) s ∧ ∀ H', Same H H' → Q (.bl (denyS (endsOf ds) s o)) H'
def cutJ (e : Int × Int) (s o : Say) : Nat → Int × Int
  | 0 => e
  | 1 => cutE e s
  | _ => cutE (cutE e s) o
def spGives : Sp := fun vs H Q _ => ∃ (a b : Addr) (s o : Say), vs = [.ref a, .ref b] ∧ H a = some (.tup (sayV s)) ∧ H b = some (.tup (sayV o)) ∧ PyData.strOk s.1 = true ∧ PyData.strOk s.2.1 = true ∧ PyData.strOk o.1 = true ∧ PyData.strOk o.2.1 = true ∧ ∀ H', Same H H' → Q (.bl (giveS s o)) H'
section
variable {P : Program} {w : World} {K : PySem.W.Frag} {mg : Str → Option Value} {base : Heap}
abbrev nDenies : List Str := ["layout", "saying", "other", "dial", "least", "greatest", "name", "sort", "i"]
theorem scDenies : FnScope nDenies ["layout", "saying", "other"] (defScope sDenies) := ⟨rfl, rfl, rfl, by decide +kernel, rfl, by decide +kernel, by decide +kernel⟩
theorem ok_denies {f g C : Addr} {fd gd : FuncData} (F : Fun K "denies" "denies" sDenies f fd) (B : Blt mg) (T : LayTxt K mg C)
    (G : FnOk P w K mg base CX0 1 g gd ["layout", "saying"] (spFits C)) (bG : Binds K gd ["layout", "saying"] []) (kG : PySem.W.keepIn K (.ref g) = true) (mG : mg "fits_none" = some (.ref g)) :
    FnOk P w K mg base CX0 2 f fd ["layout", "saying", "other"] (spDenies C) := by
  refine F.ok scDenies (fun vs H Q E h => ?_) (fun cdv A outer s H vs Q E hr h => ?_)
  · obtain ⟨lx, nl, dl, rb, sp, a, b, ds, rs, s, o, rfl, _⟩ := h
    rfl
  obtain ⟨lx, nl, dl, rb, sp, a, b, ds, rs, y, o, rfl, ls, ha, hb, hy, k⟩ := h
  have hu := hu_of hr
  refine ⟨_, pss_cons (ps_if (pt_val (pe_call G hr rfl mG kG bG .nil pass0 (pa_cons (pv 0) (pa_cons (pv 1) pa_nil)))) (pss_one (ps_ret pe_bl)) pss_nil) <|
    pss_cons (ps_if (pt_cmpR op_ne (pe_ix ix_tup (pv 1) pe_int (fun _ _ => rfl)) (pe_ix ix_tup (pv 2) pe_int (fun _ _ => rfl)) (nomark _)) (pss_one (ps_ret pe_bl)) pss_nil) <|
    pss_cons (ps_set (i := 3) scDenies.nd rfl (.inl rfl) (pe_dget hu (pe_fld (pv 0) rfl) (pe_ix ix_tup (pv 1) pe_int (fun _ _ => rfl)) (fun _ _ => rfl))) <|
    pss_cons (ps_par (i := 4) (j := 5) (by rfl) scDenies.nd rfl rfl (by decide) rfl rfl (pa_cons (pe_ix ix_tup (pv 3) pe_int (fun _ _ => rfl)) (pa_cons (pe_ix ix_tup (pv 3) pe_int (fun _ _ => rfl)) pa_nil)) (by rfl)) <|
    pss_cons (ps_for PassesOwn.never rfl (pi_tup (pe_tup (pa_cons (pv 1) (pa_cons (pv 2) pa_nil)))) (pg_tup rfl (pgs_cons (pg_name (i := 6) scDenies.nd rfl (.inl rfl)) (pgs_cons (pg_name (i := 7) scDenies.nd rfl (.inl rfl)) (pgs_cons (pg_name (i := 8) scDenies.nd rfl (.inl rfl)) pgs_nil))))
      (pss_one (ps_if (pt_cmpR op_eq (pv 7) pe_str (nomark _)) (pss_one (ps_set (i := 4) scDenies.nd rfl (.inl rfl) (pe_callB (call_max2 rfl) (by rfl) B.max (by decide +kernel) (pa_cons (pv 4) (pa_cons (pv 8) pa_nil)))))
        (pss_one (ps_set (i := 5) scDenies.nd rfl (.inl rfl) (pe_callB (call_min2 rfl) (by rfl) B.min (by decide +kernel) (pa_cons (pv 5) (pa_cons (pv 8) pa_nil)))))))) <|
    pss_one (ps_ret (pe_cmpR op_gt (pv 4) (pv 5) (nomark _))), ?_⟩
  obtain ⟨dx, fs, l1, l2, l3, l4, l5, l6⟩ := ls.L.ob
  obtain ⟨kvs, d, wy, u, dn, hk, hv, hd⟩ := dial_of ls.L.dl hy.nm ls.g.dials
  refine ⟨_, rfl, _, rfl, lx, nl, dl, rb, sp, a, ds, rs, y, rfl, ls, ha, hy, _, rfl, ?_⟩
  unfold denyS at k
  cases c0 : fitN (endsOf ds) y with
  | true =>
    rw [c0] at k
    exact iteT (k H (Same.refl H))
  | false =>
    rw [c0, Bool.false_or] at k
    refine iteF ⟨_, rfl, a, _, _, _, rfl, rfl, SqT.of ha, (rfl : atI (sayV y) 0 = some (V.str y.1)), _, rfl, b, _, _, _, rfl, rfl, SqT.of hb, (rfl : atI (sayV o) 0 = some (V.str o.1)), rfl, _, rfl, ?_⟩
    by_cases c1 : y.1 = o.1
    · rw [decide_eq_true c1, Bool.true_and] at k
      rw [decide_eq_true (show V.str y.1 = V.str o.1 by rw [c1])]
      refine iteF ⟨_, rfl, lx, C, dx, fs, _, rfl, l1, T.cl, T.nD, l3, _, rfl, a, _, _, _, rfl, rfl, SqT.of ha, (rfl : atI (sayV y) 0 = some (V.str y.1)), dl, _, rfl, .inl ⟨kvs, Sum.inr y.1, .inl hk, rfl, hv.symm⟩, ?_⟩
      refine ⟨_, rfl, d, _, _, _, rfl, rfl, SqT.of hd, rfl, _, rfl, d, _, _, _, rfl, rfl, SqT.of hd, rfl, _, _, rfl, ?_⟩
      generalize hE : endsOf ds y.1 = e at k ⊢
      refine ⟨_, rfl, _, rfl, by show 2 ≤ sizeLine; decide, fun t ht => ?_⟩
      have s1 := sameNew ht (.tup [V.ref a, V.ref b])
      have e1 : L2.upd H t (.tup [V.ref a, V.ref b]) t = some (.tup [V.ref a, V.ref b]) := upd_same
      generalize L2.upd H t (.tup [V.ref a, V.ref b]) = H0 at s1 e1
      refine ⟨t, rfl, ⟨_, SqT.of e1⟩, for_it (walk_tup (xs := [V.ref a, V.ref b])) (fun j σ H1 => ∃ v6 v7 v8 : Option V, σ = [some (.ref lx), some (.ref a), some (.ref b), some (.ref d), some (.int (cutJ e y o j).1), some (.int (cutJ e y o j).2), v6, v7, v8] ∧ Same H0 H1)
        ⟨none, none, none, rfl, Same.refl _⟩ (fun j σ H1 _ ⟨_, _, _, _, s⟩ => SqT.of (s _ _ e1)) ?_ ?_⟩
      · rintro j x σ H9 H1 hj ⟨v6, v7, v8, rfl, s2⟩ ⟨rfl, hx⟩
        obtain ⟨p, z, hp, rfl, ec⟩ : ∃ (p : Addr) (z : Say), H p = some (.tup (sayV z)) ∧ x = .ref p ∧ cutJ e y o (j + 1) = cutE (cutJ e y o j) z := by
          match j, hx with
          | 0, hx => exact ⟨a, y, ha, (Option.some.inj hx).symm, rfl⟩
          | 1, hx => exact ⟨b, o, hb, (Option.some.inj hx).symm, rfl⟩
          | j + 2, hx => simp at hx
        have hp1 := s2 _ _ (s1 _ _ hp)
        refine ⟨p, _, rfl, SqT.of hp1, rfl, _, _, rfl, _, _, rfl, _, _, rfl, rfl, ?_⟩
        refine ⟨_, rfl, rfl, _, rfl, ?_⟩
        rw [dec_least, ec]
        generalize cutJ e y o j = q
        unfold cutE
        cases c2 : leastS z with
        | true =>
          refine iteT ?_
          exact ⟨_, rfl, _, rfl, _, _, rfl, ⟨_, _, _, rfl, s2⟩⟩
        | false =>
          refine iteF ?_
          exact ⟨_, rfl, _, rfl, _, _, rfl, ⟨_, _, _, rfl, s2⟩⟩
      · rintro σ H1 ⟨v6, v7, v8, rfl, s2⟩
        exact ⟨_, rfl, _, rfl, _, _, rfl, rfl, k H1 (s1.trans s2)⟩
    · rw [decide_eq_false c1, Bool.false_and] at k
      rw [decide_eq_false (fun z => c1 (V.str.inj z))]
      exact iteT (k H (Same.refl H))
theorem eqv_pair (a b c d : Str) : PyData.eqv (.tuple [.str a, .str b]) (.tuple [.str c, .str d]) = (decide (a = c) && decide (b = d)) := by
  rw [Bool.eq_iff_iff]
  simp [PyData.eqv, PyData.eqvAll]
theorem pair_shaped {a b : Str} (ha : PyData.strOk a = true) (hb : PyData.strOk b = true) : SeqAt.shaped (.tuple [.str a, .str b]) = true := by
  refine shaped_of ?_ ?_
  · show (PyData.strOk a && (PyData.strOk b && true)) = true
    rw [ha, hb]
    rfl
  · simp [PyData.depth, PyData.depthAll]
theorem scGives : FnScope ["saying", "other"] ["saying", "other"] (defScope sGives) := ⟨rfl, rfl, rfl, by decide +kernel, rfl, by decide +kernel, by decide +kernel⟩
theorem ok_gives {f : Addr} {fd : FuncData} (F : Fun K "gives" "gives" sGives f fd) : FnOk P w K mg base CX0 1 f fd ["saying", "other"] spGives := by
  refine F.ok scGives (fun vs H Q E h => ?_) (fun cdv A outer s H vs Q E hr h => ?_)
  · obtain ⟨a, b, s, o, rfl, _⟩ := h
    rfl
  obtain ⟨a, b, y, o, rfl, ha, hb, s1, s2, s3, s4, k⟩ := h
  have h64 : (A.deeper (PyProof.Rows.envOfC "gives" (defScope sGives) s.heap.objs.size f cdv)).units + 64 < cLine := by
    have := hr.un
    omega
  refine ⟨_, pss_cons (ps_if (pt_cmpR (op_neD h64) (pe_slice sl_tup (pv 0) po_none (po_some pe_int)) (pe_slice sl_tup (pv 1) po_none (po_some pe_int)) (nomark _)) (pss_one (ps_ret pe_bl)) pss_nil) <|
    pss_one (ps_ret (pe_ifExp (pt_cmpR op_eq (pe_ix ix_tup (pv 0) pe_int (fun _ _ => rfl)) pe_str (nomark _)) (pe_cmpR op_ge (pe_ix ix_tup (pv 0) pe_int (fun _ _ => rfl)) (pe_ix ix_tup (pv 1) pe_int (fun _ _ => rfl)) (nomark _)) (pe_cmpR op_le (pe_ix ix_tup (pv 0) pe_int (fun _ _ => rfl)) (pe_ix ix_tup (pv 1) pe_int (fun _ _ => rfl)) (nomark _)))), ?_⟩
  refine ⟨_, rfl, 2, rfl, a, _, rfl, SqT.of ha, fun z' => absurd z'.2 (show ¬ HT.sIx 3 3 (some 2) = 3 by decide), fun p hp => ?_⟩
  rw [show cutV (sayV y) none (some 2) = [V.str y.1, V.str y.2.1] from rfl]
  have z1 := sameNew hp (.tup [V.str y.1, V.str y.2.1])
  refine ⟨_, rfl, 2, rfl, b, _, rfl, SqT.of (z1 _ _ hb), fun z' => absurd z'.2 (show ¬ HT.sIx 3 3 (some 2) = 3 by decide), fun r hr' => ?_⟩
  rw [show cutV (sayV o) none (some 2) = [V.str o.1, V.str o.2.1] from rfl]
  have z2 := sameNew hr' (.tup [V.str o.1, V.str o.2.1])
  have z12 := z1.trans z2
  refine ⟨_, _, Tr.dp (.tup (z2 _ _ upd_same) (.cons (.str _) (.cons (.str _) .nil))) rfl, Tr.dp (.tup upd_same (.cons (.str _) (.cons (.str _) .nil))) rfl, pair_shaped s1 s2, pair_shaped s3 s4, _, rfl, ?_⟩
  rw [eqv_pair]
  unfold giveS at k
  have k := k _ z12
  cases c1 : decide (y.1 = o.1) with
  | false =>
    rw [c1] at k
    exact iteT k
  | true =>
    cases c2 : decide (y.2.1 = o.2.1) with
    | false =>
      rw [c1, c2] at k
      exact iteT k
    | true =>
      rw [c1, c2, Bool.true_and, Bool.true_and] at k
      refine iteF ⟨_, rfl, a, _, _, _, rfl, rfl, SqT.of (z12 _ _ ha), (rfl : atI (sayV y) 1 = some (V.str y.2.1)), rfl, _, rfl, ?_⟩
      rw [dec_least]
      cases c3 : leastS y with
      | true =>
        rw [c3, if_pos rfl] at k
        exact iteT ⟨_, rfl, a, _, _, _, rfl, rfl, SqT.of (z12 _ _ ha), (rfl : atI (sayV y) 2 = some (V.int y.2.2)), _, rfl, b, _, _, _, rfl, rfl, SqT.of (z12 _ _ hb), (rfl : atI (sayV o) 2 = some (V.int o.2.2)), _, _, rfl, rfl, k⟩
      | false =>
        rw [c3, if_neg Bool.false_ne_true] at k
        exact iteF ⟨_, rfl, a, _, _, _, rfl, rfl, SqT.of (z12 _ _ ha), (rfl : atI (sayV y) 2 = some (V.int y.2.2)), _, rfl, b, _, _, _, rfl, rfl, SqT.of (z12 _ _ hb), (rfl : atI (sayV o) 2 = some (V.int o.2.2)), _, _, rfl, rfl, k⟩
end
end Pk
end
section
set_option maxHeartbeats 1000000
/-! given_by_one, given. -/
namespace Pk
open PySem L2
/-- a rule: of two sayings, or of a pair -/
inductive Rul where
  | one (p q : Say)
  | pair (w a b : Str) (c : Int)
def RulAt (H : Hp) (r : Addr) : Rul → Prop
  | .one p q => ∃ x y, H r = some (.tup [V.str "one", V.ref x, V.ref y]) ∧ H x = some (.tup (sayV p)) ∧ H y = some (.tup (sayV q))
  | .pair w a b c => H r = some (.tup [V.str w, V.str a, V.str b, V.int c])
theorem RulAt.same {H H' : Hp} {r : Addr} {R : Rul} (h : RulAt H r R) (s : Same H H') : RulAt H' r R := by
  cases R with
  | one p q =>
    obtain ⟨x, y, h1, h2, h3⟩ := h
    exact ⟨x, y, s _ _ h1, s _ _ h2, s _ _ h3⟩
  | pair w a b c => exact s _ _ h
/-- the rule's own words -/
def RulOk (ns : List Str) : Rul → Prop
  | .one p q => SayH ns p ∧ SayH ns q
  | .pair w a b _ => w ∈ pairs3 ∧ a ∈ ns ∧ b ∈ ns
def gByOne (e : Str → Int × Int) (s p q : Say) : List Say := (if denyS e s p = true then [q] else []) ++ (if denyS e s q = true then [p] else [])
def givenR (e : Str → Int × Int) : Rul → Say → List Say
  | .one p q, s => gByOne e s p q
  | .pair w a b c, s =>
    if w = "off" then (if s.1 = a ∧ s.2.1 = "least" then [(b, "least", s.2.2 - c)] else if s.1 = b ∧ s.2.1 = "most" then [(a, "most", s.2.2 + c)] else [])
    else if s.2.1 = w ∨ ¬ (s.1 = a ∨ s.1 = b) then [] else [(if s.1 = a then b else a, w, c - s.2.2)]
theorem givenR_pair {e : Str → Int × Int} {w a b : Str} {c : Int} {s : Say} : givenR e (.pair w a b c) s = if w = ("off" : Str) then (if s.1 = a ∧ s.2.1 = ("least" : Str) then ([(b, "least", s.2.2 - c)] : List Say) else if s.1 = b ∧ s.2.1 = ("most" : Str) then ([(a, "most", s.2.2 + c)] : List Say) else ([] : List Say))
    else if s.2.1 = w ∨ ¬ (s.1 = a ∨ s.1 = b) then ([] : List Say) else ([(if s.1 = a then b else a, w, c - s.2.2)] : List Say) := rfl
/-- sayings where they lie -/
def SaysAt (H : Hp) (as : List Addr) (ss : List Say) : Prop := PySem.Paired (fun a z => H a = some (.tup (sayV z))) as ss
def spGBO (C : Addr) : Sp := fun vs H Q _ => ∃ (lx nl dl rb sp r a x y : Addr) (ds rs : List PyData) (s p q : Say), vs = [.ref lx, .ref r, .ref a] ∧ LS C H lx nl dl rb sp ds rs ∧ H r = some (.tup [V.str "one", V.ref x, V.ref y]) ∧ H x = some (.tup (sayV p)) ∧ H y = some (.tup (sayV q)) ∧ H a = some (.tup (sayV s)) ∧ SayH (ds.map nameOf) s ∧
  ∀ (l : Addr) (os : List Addr) (H' : Hp), Same H H' → H l = none → H' l = some (.lst (os.map V.ref)) → SaysAt H' os (gByOne (endsOf ds) s p q) → Q (.ref l) H'
def spGiven (C : Addr) : Sp := fun vs H Q _ => ∃ (lx nl dl rb sp r a : Addr) (ds rs : List PyData) (s : Say) (R : Rul), vs = [.ref lx, .ref r, .ref a] ∧ LS C H lx nl dl rb sp ds rs ∧ RulAt H r R ∧ RulOk (ds.map nameOf) R ∧ H a = some (.tup (sayV s)) ∧ SayH (ds.map nameOf) s ∧
  ∀ (l : Addr) (os : List Addr) (H' : Hp), Same H H' → H l = none → H' l = some (.lst (os.map V.ref)) → SaysAt H' os (givenR (endsOf ds) R s) → Q (.ref l) H'
theorem LS.same {C : Addr} {H H' : Hp} {lx nl dl rb sp : Addr} {ds rs : List PyData} (h : LS C H lx nl dl rb sp ds rs) (s : Same H H') : LS C H' lx nl dl rb sp ds rs := by
  obtain ⟨⟨⟨dx, fs, h1, h2⟩, h3, ⟨kvs, k1, k2⟩, h5, ⟨kws, j1, j2⟩⟩, g⟩ := h
  refine ⟨⟨⟨dx, fs, s _ _ h1, h2⟩, s _ _ h3, ⟨kvs, s _ _ k1, fun d hd => ?_⟩, h5.same s, ⟨kws, s _ _ j1, fun z hz => ?_⟩⟩, g⟩
  · obtain ⟨v, a, b⟩ := k2 d hd
    exact ⟨v, a, b.same s⟩
  · obtain ⟨l, ys, qs, a1, a2, a3, a4⟩ := j2 z hz
    exact ⟨l, ys, qs, a1, s _ _ a2, a3.same s, a4⟩
section
variable {P : Program} {w : World} {K : PySem.W.Frag} {mg : Str → Option Value} {base : Heap}
abbrev nGBO : List Str := ["layout", "rule", "saying", "word", "first", "second", "told"]
theorem scGBO : FnScope nGBO ["layout", "rule", "saying"] (defScope sGivenByOne) := ⟨rfl, rfl, rfl, by decide +kernel, rfl, by decide +kernel, by decide +kernel⟩
theorem mutN {H H1 : Hp} {l : Addr} {o : HO} (s : Same H H1) (h : H l = none) : Same H (L2.upd H1 l o) := fun b u e => by
  rw [upd_ne (ne_of_none e h)]
  exact s _ _ e
theorem ok_gbo {f g C : Addr} {fd gd : FuncData} (F : Fun K "given_by_one" "given_by_one" sGivenByOne f fd)
    (G : FnOk P w K mg base CX0 2 g gd ["layout", "saying", "other"] (spDenies C)) (bG : Binds K gd ["layout", "saying", "other"] []) (kG : PySem.W.keepIn K (.ref g) = true) (mG : mg "denies" = some (.ref g)) :
    FnOk P w K mg base CX0 3 f fd ["layout", "rule", "saying"] (spGBO C) := by
  refine F.ok scGBO (fun vs H Q E h => ?_) (fun cdv A outer s H vs Q E hr h => ?_)
  · obtain ⟨lx, nl, dl, rb, sp, r, a, x, y, ds, rs, s, p, q, rfl, _⟩ := h
    rfl
  obtain ⟨lx, nl, dl, rb, sp, r, a, x, y, ds, rs, z, p, q, rfl, ls, hr', hx, hy, ha, hz, k⟩ := h
  refine ⟨_, pss_cons (ps_asg (pv 1) (pg_tup (by rfl) (pgs_cons (pg_name (i := 3) scGBO.nd rfl (.inl rfl)) <| pgs_cons (pg_name (i := 4) scGBO.nd rfl (.inl rfl)) <| pgs_cons (pg_name (i := 5) scGBO.nd rfl (.inl rfl)) pgs_nil))) <|
    pss_cons (ps_set (i := 6) scGBO.nd rfl (.inl rfl) (pe_lst pa_nil)) <|
    pss_cons (ps_if (pt_val (pe_call G hr rfl mG kG bG .nil pass0 (pa_cons (pv 0) (pa_cons (pv 2) (pa_cons (pv 4) pa_nil))))) (pss_one (ps_expr (pe_bm PySem.F.plainAttrs_list PySem.F.slot_list_append PySem.F.type_list_append mt_append (pv 6) (pa_cons (pv 5) pa_nil)))) pss_nil) <|
    pss_cons (ps_if (pt_val (pe_call G hr rfl mG kG bG .nil pass0 (pa_cons (pv 0) (pa_cons (pv 2) (pa_cons (pv 5) pa_nil))))) (pss_one (ps_expr (pe_bm PySem.F.plainAttrs_list PySem.F.slot_list_append PySem.F.type_list_append mt_append (pv 6) (pa_cons (pv 4) pa_nil)))) pss_nil) <|
    pss_one (ps_ret (pv 6)), ?_⟩
  have sl := sizeLine_eq
  refine ⟨_, rfl, r, _, rfl, SqT.of hr', rfl, _, _, rfl, _, _, rfl, _, _, rfl, rfl, ?_⟩
  refine ⟨by show 0 ≤ sizeLine; omega, fun l hl => ?_⟩
  have s1 := sameNew hl (.lst [])
  have e1 : L2.upd H l (.lst []) l = some (.lst (([] : List Addr).map V.ref)) := upd_same
  show tSeq _ _ _ _ (L2.upd H l (.lst []))
  generalize L2.upd H l (.lst []) = H1 at s1 e1
  have lsH1 := ls.same s1
  refine ⟨_, rfl, _, rfl, _, rfl, lx, nl, dl, rb, sp, a, x, ds, rs, z, p, rfl, lsH1, s1 _ _ ha, s1 _ _ hx, hz, fun H2 s2 => ⟨_, rfl, ?_⟩⟩
  have s12 := s1.trans s2
  have e2 := s2 _ _ e1
  unfold gByOne at k
  have fin : ∀ (os : List Addr) (zs : List Say) (H3 : Hp), Same H H3 → H3 l = some (.lst (os.map V.ref)) → PySem.Paired (fun a z => H a = some (.tup (sayV z))) os zs → (if denyS (endsOf ds) z p = true then [q] else []) ++ (if denyS (endsOf ds) z q = true then [p] else []) = zs → Q (.ref l) H3 := fun os zs H3 s3 e3 pr ee => by
    refine k l os H3 s3 hl e3 ?_
    rw [ee]
    exact L2.Paired.mapP pr fun a z h => s3 _ _ h
  cases c1 : denyS (endsOf ds) z p with
  | true =>
    refine iteT ⟨_, rfl, .inl ⟨rfl, _, SqL.of e2⟩, _, rfl, l, _, _, rfl, rfl, e2, by show 0 < sizeLine; omega, ?_⟩
    have s3 : Same H (L2.upd H2 l (.lst (([] : List Addr).map V.ref ++ [V.ref y]))) := mutN s12 hl
    have e3 : L2.upd H2 l (.lst (([] : List Addr).map V.ref ++ [V.ref y])) l = some (.lst ([y].map V.ref)) := upd_same
    generalize L2.upd H2 l (.lst (([] : List Addr).map V.ref ++ [V.ref y])) = H3 at s3 e3
    refine ⟨_, rfl, _, rfl, _, rfl, lx, nl, dl, rb, sp, a, y, ds, rs, z, q, rfl, ls.same s3, s3 _ _ ha, s3 _ _ hy, hz, fun H4 s4 => ⟨_, rfl, ?_⟩⟩
    have s34 := s3.trans s4
    have e4 := s4 _ _ e3
    cases c2 : denyS (endsOf ds) z q with
    | true =>
      refine iteT ⟨_, rfl, .inl ⟨rfl, _, SqL.of e4⟩, _, rfl, l, _, _, rfl, rfl, e4, by show 1 < sizeLine; omega, ?_⟩
      exact ⟨_, rfl, fin [y, x] [q, p] _ (mutN s34 hl) upd_same (.cons hy (.cons hx .nil)) (by rw [c1, c2]; rfl)⟩
    | false => exact iteF ⟨_, rfl, fin [y] [q] _ s34 e4 (.cons hy .nil) (by rw [c1, c2]; rfl)⟩
  | false =>
    refine iteF ⟨_, rfl, _, rfl, _, rfl, lx, nl, dl, rb, sp, a, y, ds, rs, z, q, rfl, ls.same s12, s12 _ _ ha, s12 _ _ hy, hz, fun H4 s4 => ⟨_, rfl, ?_⟩⟩
    have s34 := s12.trans s4
    have e4 := s4 _ _ e2
    cases c2 : denyS (endsOf ds) z q with
    | true =>
      refine iteT ⟨_, rfl, .inl ⟨rfl, _, SqL.of e4⟩, _, rfl, l, _, _, rfl, rfl, e4, by show 0 < sizeLine; omega, ?_⟩
      exact ⟨_, rfl, fin [x] [p] _ (mutN s34 hl) upd_same (.cons hx .nil) (by rw [c1, c2]; rfl)⟩
    | false => exact iteF ⟨_, rfl, fin [] [] _ s34 e4 .nil (by rw [c1, c2]; rfl)⟩
theorem strIs_str (a b : Str) : strIs a (.str b) = decide (b = a) := by
  rw [Bool.eq_iff_iff, decide_eq_true_eq]
  unfold strIs
  first
    | exact ⟨fun h => of_decide_eq_true h, fun h => decide_eq_true h⟩
    | exact ⟨fun h => (of_decide_eq_true h).symm, fun h => decide_eq_true h.symm⟩
    | (rw [beq_iff_eq])
    | (rw [beq_iff_eq]; exact eq_comm)
abbrev nGiven : List Str := ["layout", "rule", "saying", "word", "a", "b", "c", "name", "sort", "i"]
theorem scGiven : FnScope nGiven ["layout", "rule", "saying"] (defScope sGiven) := ⟨rfl, rfl, rfl, by decide +kernel, rfl, by decide +kernel, by decide +kernel⟩
theorem dec_strV (a b : Str) : decide (V.str a = V.str b) = decide (a = b) := by
  rw [Bool.eq_iff_iff, decide_eq_true_eq, decide_eq_true_eq]
  exact ⟨fun h => V.str.inj h, fun h => by rw [h]⟩
theorem ok_given {f g C : Addr} {fd gd : FuncData} (F : Fun K "given" "given" sGiven f fd)
    (G : FnOk P w K mg base CX0 3 g gd ["layout", "rule", "saying"] (spGBO C)) (bG : Binds K gd ["layout", "rule", "saying"] []) (kG : PySem.W.keepIn K (.ref g) = true) (mG : mg "given_by_one" = some (.ref g)) :
    FnOk P w K mg base CX0 4 f fd ["layout", "rule", "saying"] (spGiven C) := by
  refine F.ok scGiven (fun vs H Q E h => ?_) (fun cdv A outer s H vs Q E hr h => ?_)
  · obtain ⟨lx, nl, dl, rb, sp, r, a, ds, rs, s, R, rfl, _⟩ := h
    rfl
  obtain ⟨lx, nl, dl, rb, sp, r, a, ds, rs, z, R, rfl, ls, hR, oR, ha, hz, k⟩ := h
  have hu := hu_of hr
  refine ⟨_, pss_cons (ps_if (pt_cmpR op_eq (pe_ix ix_tup (pv 1) pe_int (fun _ _ => rfl)) pe_str (nomark _)) (pss_one (ps_ret (pe_call G hr rfl mG kG bG .nil pass0 (pa_cons (pv 0) (pa_cons (pv 1) (pa_cons (pv 2) pa_nil)))))) pss_nil) <|
    pss_cons (ps_asg (pv 1) (pg_tup (by rfl) (pgs_cons (pg_name (i := 3) scGiven.nd rfl (.inl rfl)) <| pgs_cons (pg_name (i := 4) scGiven.nd rfl (.inl rfl)) <| pgs_cons (pg_name (i := 5) scGiven.nd rfl (.inl rfl)) <| pgs_cons (pg_name (i := 6) scGiven.nd rfl (.inl rfl)) pgs_nil))) <|
    pss_cons (ps_asg (pv 2) (pg_tup (by rfl) (pgs_cons (pg_name (i := 7) scGiven.nd rfl (.inl rfl)) <| pgs_cons (pg_name (i := 8) scGiven.nd rfl (.inl rfl)) <| pgs_cons (pg_name (i := 9) scGiven.nd rfl (.inl rfl)) pgs_nil))) <|
    pss_cons (ps_if (pt_cmpR op_eq (pv 3) pe_str (nomark _))
      (pss_cons (ps_if (PW.pt (pw_and (pt_cmpR op_eq (pv 7) (pv 4) (nomark _)) (pw_and1 (pt_cmpR op_eq (pv 8) pe_str (nomark _))))) (pss_one (ps_ret (pe_lst (pa_cons (pe_tup (pa_cons (pv 5) (pa_cons pe_str (pa_cons (pe_op op_sub (pv 9) (pv 6)) pa_nil)))) pa_nil)))) pss_nil) <|
       pss_cons (ps_if (PW.pt (pw_and (pt_cmpR op_eq (pv 7) (pv 5) (nomark _)) (pw_and1 (pt_cmpR op_eq (pv 8) pe_str (nomark _))))) (pss_one (ps_ret (pe_lst (pa_cons (pe_tup (pa_cons (pv 4) (pa_cons pe_str (pa_cons (pe_op op_add (pv 9) (pv 6)) pa_nil)))) pa_nil)))) pss_nil) <|
       pss_one (ps_ret (pe_lst pa_nil))) pss_nil) <|
    pss_cons (ps_if (PW.pt (pw_or (pt_cmpR op_eq (pv 8) (pv 3) (nomark _)) (pw_or1 (pt_cmpR (op_notInS hu) (pv 7) (pe_tup (pa_cons (pv 4) (pa_cons (pv 5) pa_nil))) (by rfl))))) (pss_one (ps_ret (pe_lst pa_nil))) pss_nil) <|
    pss_one (ps_ret (pe_lst (pa_cons (pe_tup (pa_cons (pe_ifExp (pt_cmpR op_eq (pv 7) (pv 4) (nomark _)) (pv 5) (pv 4)) (pa_cons (pv 3) (pa_cons (pe_op op_sub (pv 6) (pv 9)) pa_nil)))) pa_nil))), ?_⟩
  have sl := sizeLine_eq
  cases R with
  | one p q =>
    obtain ⟨x, y, hr1, hx, hy⟩ := hR
    refine ⟨_, rfl, r, _, _, _, rfl, rfl, SqT.of hr1, rfl, rfl, _, rfl, ?_⟩
    rw [decide_eq_true rfl]
    exact iteT ⟨_, rfl, _, rfl, _, rfl, lx, nl, dl, rb, sp, r, a, x, y, ds, rs, z, p, q, rfl, ls, hr1, hx, hy, ha, hz, k⟩
  | pair wd na nb c =>
    have hR : H r = some (.tup [V.str wd, V.str na, V.str nb, V.int c]) := hR
    obtain ⟨ow, oa, ob⟩ := oR
    have w1 : wd ≠ "one" := fun e => by
      rw [e] at ow
      revert ow
      decide +kernel
    -- one saying, told
    have one : ∀ (H1 : Hp) (t : Say), Same H H1 → givenR (endsOf ds) (.pair wd na nb c) z = [t] → ∀ b, H1 b = none → ∀ l, L2.upd H1 b (.tup (sayV t)) l = none → Q (.ref l) (L2.upd (L2.upd H1 b (.tup (sayV t))) l (.lst [V.ref b])) := fun H1 t s1 eg b hb l hl => by
      have s2 := s1.trans (sameNew hb (.tup (sayV t)))
      have l0 : H l = none := s2.free hl
      refine k l [b] _ (s2.trans (sameNew hl _)) l0 upd_same ?_
      rw [eg]
      exact .cons (sameNew hl _ _ _ upd_same) .nil
    have nil : ∀ (H1 : Hp), Same H H1 → givenR (endsOf ds) (.pair wd na nb c) z = [] → ∀ l, H1 l = none → Q (.ref l) (L2.upd H1 l (.lst [])) := fun H1 s1 eg l hl => by
      refine k l [] _ (s1.trans (sameNew hl _)) (s1.free hl) upd_same ?_
      rw [eg]
      exact .nil
    refine ⟨_, rfl, r, _, _, _, rfl, rfl, SqT.of hR, rfl, rfl, _, rfl, ?_⟩
    rw [dec_strV, decide_eq_false w1]
    refine iteF ⟨_, rfl, r, _, rfl, SqT.of hR, rfl, _, _, rfl, _, _, rfl, _, _, rfl, _, _, rfl, rfl, ?_⟩
    refine ⟨_, rfl, a, _, rfl, SqT.of ha, rfl, _, _, rfl, _, _, rfl, _, _, rfl, rfl, ?_⟩
    refine ⟨_, rfl, rfl, _, rfl, ?_⟩
    rw [dec_strV]
    by_cases c1 : wd = "off"
    · rw [decide_eq_true c1]
      refine iteT ⟨_, rfl, _, rfl, rfl, _, rfl, ?_⟩
      rw [dec_strV]
      by_cases c2 : z.1 = na
      · rw [decide_eq_true c2]
        refine iteT ⟨_, rfl, rfl, _, rfl, ?_⟩
        rw [dec_strV]
        by_cases c3 : z.2.1 = "least"
        · rw [decide_eq_true c3]
          exact iteT ⟨_, rfl, _, rfl, _, rfl, _, _, rfl, rfl, by show 3 ≤ sizeLine; omega, fun b hb => ⟨by show 1 ≤ sizeLine; omega, fun l hl => one H (nb, "least", z.2.2 - c) (Same.refl H) (by rw [givenR_pair, if_pos c1, if_pos ⟨c2, c3⟩]) b hb l hl⟩⟩
        · rw [decide_eq_false c3]
          refine iteF ?_
          refine ⟨_, rfl, _, rfl, rfl, _, rfl, ?_⟩
          rw [dec_strV]
          by_cases d2 : z.1 = nb
          · rw [decide_eq_true d2]
            refine iteT ⟨_, rfl, rfl, _, rfl, ?_⟩
            rw [dec_strV]
            by_cases d3 : z.2.1 = "most"
            · rw [decide_eq_true d3]
              exact iteT ⟨_, rfl, _, rfl, _, rfl, _, _, rfl, rfl, by show 3 ≤ sizeLine; omega, fun b hb => ⟨by show 1 ≤ sizeLine; omega, fun l hl => one H (na, "most", z.2.2 + c) (Same.refl H) (by rw [givenR_pair, if_pos c1, if_neg (fun q : z.1 = na ∧ z.2.1 = "least" => c3 q.2), if_pos ⟨d2, d3⟩]) b hb l hl⟩⟩
            · rw [decide_eq_false d3]
              exact iteF ⟨by show 0 ≤ sizeLine; omega, fun l hl => nil H (Same.refl H) (by rw [givenR_pair, if_pos c1, if_neg (fun q : z.1 = na ∧ z.2.1 = "least" => c3 q.2), if_neg (fun q => d3 q.2)]) l hl⟩
          · rw [decide_eq_false d2]
            exact iteF ⟨by show 0 ≤ sizeLine; omega, fun l hl => nil H (Same.refl H) (by rw [givenR_pair, if_pos c1, if_neg (fun q : z.1 = na ∧ z.2.1 = "least" => c3 q.2), if_neg (fun q => d2 q.1)]) l hl⟩
      · rw [decide_eq_false c2]
        refine iteF ?_
        refine ⟨_, rfl, _, rfl, rfl, _, rfl, ?_⟩
        rw [dec_strV]
        by_cases d2 : z.1 = nb
        · rw [decide_eq_true d2]
          refine iteT ⟨_, rfl, rfl, _, rfl, ?_⟩
          rw [dec_strV]
          by_cases d3 : z.2.1 = "most"
          · rw [decide_eq_true d3]
            exact iteT ⟨_, rfl, _, rfl, _, rfl, _, _, rfl, rfl, by show 3 ≤ sizeLine; omega, fun b hb => ⟨by show 1 ≤ sizeLine; omega, fun l hl => one H (na, "most", z.2.2 + c) (Same.refl H) (by rw [givenR_pair, if_pos c1, if_neg (fun q : z.1 = na ∧ z.2.1 = "least" => c2 q.1), if_pos ⟨d2, d3⟩]) b hb l hl⟩⟩
          · rw [decide_eq_false d3]
            exact iteF ⟨by show 0 ≤ sizeLine; omega, fun l hl => nil H (Same.refl H) (by rw [givenR_pair, if_pos c1, if_neg (fun q : z.1 = na ∧ z.2.1 = "least" => c2 q.1), if_neg (fun q => d3 q.2)]) l hl⟩
        · rw [decide_eq_false d2]
          exact iteF ⟨by show 0 ≤ sizeLine; omega, fun l hl => nil H (Same.refl H) (by rw [givenR_pair, if_pos c1, if_neg (fun q : z.1 = na ∧ z.2.1 = "least" => c2 q.1), if_neg (fun q => d2 q.1)]) l hl⟩
    · rw [decide_eq_false c1]
      refine iteF ?_
      refine ⟨_, rfl, _, rfl, rfl, _, rfl, ?_⟩
      rw [dec_strV]
      by_cases c2 : z.2.1 = wd
      · rw [decide_eq_true c2]
        exact iteT ⟨by show 0 ≤ sizeLine; omega, fun l hl => nil H (Same.refl H) (by rw [givenR_pair, if_neg c1, if_pos (.inl c2)]) l hl⟩
      · rw [decide_eq_false c2]
        refine iteF ⟨_, rfl, _, rfl, _, rfl, by show 2 ≤ sizeLine; omega, fun t ht => ?_⟩
        have s1 := sameNew ht (.tup [V.str na, V.str nb])
        refine ⟨.str z.1, t, [na, nb], .str _, rfl, .inr (SqT.of upd_same), _, rfl, ?_⟩
        have e : ([na, nb].any fun y => strIs y (.str z.1)) = decide (z.1 = na ∨ z.1 = nb) := by
          show (strIs na (.str z.1) || (strIs nb (.str z.1) || false)) = _
          rw [strIs_str, strIs_str, Bool.or_false, Bool.eq_iff_iff, Bool.or_eq_true, decide_eq_true_eq, decide_eq_true_eq, decide_eq_true_eq]
        rw [e]
        by_cases c3 : z.1 = na ∨ z.1 = nb
        · rw [decide_eq_true c3]
          refine iteF ⟨_, rfl, _, rfl, rfl, _, rfl, ?_⟩
          rw [dec_strV]
          have c5 : ¬ (z.2.1 = wd ∨ ¬ (z.1 = na ∨ z.1 = nb)) := fun q => q.elim c2 fun q => q c3
          by_cases c4 : z.1 = na
          · rw [decide_eq_true c4]
            exact iteT ⟨_, rfl, _, rfl, _, rfl, _, rfl, _, _, rfl, rfl, by show 3 ≤ sizeLine; omega, fun b hb => ⟨by show 1 ≤ sizeLine; omega, fun l hl => one _ (nb, wd, c - z.2.2) s1 (by rw [givenR_pair, if_neg c1, if_neg c5, if_pos c4]) b hb l hl⟩⟩
          · rw [decide_eq_false c4]
            exact iteF ⟨_, rfl, _, rfl, _, rfl, _, rfl, _, _, rfl, rfl, by show 3 ≤ sizeLine; omega, fun b hb => ⟨by show 1 ≤ sizeLine; omega, fun l hl => one _ (na, wd, c - z.2.2) s1 (by rw [givenR_pair, if_neg c1, if_neg c5, if_neg c4]) b hb l hl⟩⟩
        · rw [decide_eq_false c3]
          exact iteT ⟨by show 0 ≤ sizeLine; omega, fun l hl => nil _ s1 (by rw [givenR_pair, if_neg c1, if_pos (.inr c3)]) l hl⟩
end
end Pk
end
section
set_option maxHeartbeats 1000000
/-! leads_on. -/
namespace Pk
open PySem L2
abbrev sLeads : Stmt := topH 41
def sayOf : PyData → Say
  | .tuple [.str z, .str so, .int i] => (z, so, i)
  | _ => ("", "", 0)
def rulOf : PyData → Rul
  | .tuple [_, p, q] => .one (sayOf p) (sayOf q)
  | .tuple [.str w, .str a, .str b, .int c] => .pair w a b c
  | _ => .pair "" "" "" 0
theorem nmK_ok {ds rs : List PyData} (hg : HouseG ds rs) {z : Str} (h : z ∈ ds.map nameOf) : nmOk z := by
  obtain ⟨d, hd, rfl⟩ := List.mem_map.mp h
  obtain ⟨nm, way, lo, hi, up, dn, rfl, h1, _⟩ := hg.dials d hd
  exact h1
theorem nmK_str {ds rs : List PyData} (hg : HouseG ds rs) {z : Str} (h : z ∈ ds.map nameOf) : PyData.strOk z = true := (nm_str (nmK_ok hg h)).1
theorem sayK_of {ns : List Str} {d : PyData} (h : sayingD ns d = true) : SayH ns (sayOf d) ∧ d = sayP (sayOf d) ∧ -greatS ≤ (sayOf d).2.2 ∧ (sayOf d).2.2 ≤ greatS := by
  match d, h with
  | .tuple [n, s, i], h =>
    rw [show sayingD ns (.tuple [n, s, i]) = (inS ns n && (inS sorts2 s && wholeD (-greatS) greatS i)) from rfl, Bool.and_eq_true, Bool.and_eq_true] at h
    obtain ⟨h1, h2, h3⟩ := h
    obtain ⟨z, hz, rfl⟩ := inS_is h1
    obtain ⟨so, hso, rfl⟩ := inS_is h2
    obtain ⟨j, rfl⟩ := whole_is h3
    rw [wholeD_int, Bool.and_eq_true, decide_eq_true_eq, decide_eq_true_eq] at h3
    exact ⟨⟨hz, hso⟩, rfl, h3.1, h3.2⟩
theorem say_tr {H : Hp} {v : V} {s : Say} (t : Tr H v (sayP s)) : ∃ a, v = .ref a ∧ H a = some (.tup (sayV s)) := by
  cases t with
  | @tup a xs _ ha al =>
  match xs, al with
  | [_, _, _], .cons (.str _) (.cons (.str _) (.cons (.int _) .nil)) => exact ⟨a, rfl, ha⟩
/-- a rule where it lies -/
theorem rul_of {H : Hp} {ns : List Str} {v : V} {r : PyData} (t : Tr H v r) (h : RuleG ns r) : ∃ a, v = .ref a ∧ RulAt H a (rulOf r) ∧ RulOk ns (rulOf r) := by
  rcases rule_is h.rule with ⟨p, q, rfl, h1, h2⟩ | ⟨w, a, b, c, rfl, h1, h2, h3⟩
  · obtain ⟨k1, e1, _⟩ := sayK_of h1
    obtain ⟨k2, e2, _⟩ := sayK_of h2
    cases t with
    | @tup a xs _ ha al =>
    match xs, al with
    | [_, u, v], .cons (.str _) (.cons t1 (.cons t2 .nil)) =>
    rw [e1] at t1
    rw [e2] at t2
    obtain ⟨x, rfl, hx⟩ := say_tr t1
    obtain ⟨y, rfl, hy⟩ := say_tr t2
    exact ⟨a, rfl, ⟨x, y, ha, hx, hy⟩, k1, k2⟩
  · cases t with
    | @tup x xs _ ha al =>
    match xs, al with
    | [_, _, _, _], .cons (.str _) (.cons (.str _) (.cons (.str _) (.cons (.int _) .nil))) => exact ⟨x, rfl, ha, h1, h2, h3⟩
theorem given_ok {e : Str → Int × Int} {ns : List Str} {R : Rul} {s : Say} (h : RulOk ns R) (hs : SayH ns s) : ∀ t ∈ givenR e R s, SayH ns t := fun t ht => by
  cases R with
  | one p q =>
    have ht : t ∈ gByOne e s p q := ht
    unfold gByOne at ht
    rcases List.mem_append.mp ht with ht | ht
    · split at ht
      · rw [List.mem_singleton.mp ht]
        exact h.2
      · cases ht
    · split at ht
      · rw [List.mem_singleton.mp ht]
        exact h.1
      · cases ht
  | pair w a b c =>
    obtain ⟨h1, h2, h3⟩ := h
    have l1 : ("least" : Str) ∈ sorts2 := by decide +kernel
    have l2 : ("most" : Str) ∈ sorts2 := by decide +kernel
    rw [givenR_pair] at ht
    split at ht
    · split at ht
      · rw [List.mem_singleton.mp ht]
        exact ⟨h3, l1⟩
      · split at ht
        · rw [List.mem_singleton.mp ht]
          exact ⟨h2, l2⟩
        · cases ht
    · rename_i nw
      split at ht
      · cases ht
      · rw [List.mem_singleton.mp ht]
        have hw : w ∈ sorts2 := by
          have q : ∀ x ∈ pairs3, x = "off" ∨ x ∈ sorts2 := by decide +kernel
          exact (q w h1).elim (fun z => (nw z).elim) id
        refine ⟨?_, hw⟩
        show (if s.1 = a then b else a) ∈ ns
        split
        · exact h3
        · exact h2
theorem given_len (e : Str → Int × Int) (R : Rul) (s : Say) : (givenR e R s).length ≤ 2 := by
  cases R with
  | one p q =>
    show (gByOne e s p q).length ≤ 2
    unfold gByOne
    rw [List.length_append]
    split <;> split <;> simp
  | pair w a b c =>
    rw [givenR_pair]
    split
    · split
      · simp
      · split <;> simp
    · split <;> simp
/-- whether a saying follows from the one ahead by a rule's number, or -1 -/
def leadB (e : Str → Int × Int) (rs : List PyData) (s t : Say) (by_ : Int) : Bool := if by_ = -1 then giveS s t else match rs[by_.toNat]? with
  | some r => (givenR e (rulOf r) s).any fun u => giveS u t
  | none => false
def spLeads (C : Addr) : Sp := fun vs H Q _ => ∃ (lx nl dl rb sp a : Addr) (x : V) (ds rs : List PyData) (s t : Say) (by_ : Int), vs = [.ref lx, .ref a, x] ∧ LS C H lx nl dl rb sp ds rs ∧ H a = some (.tup (sayV s)) ∧ SayH (ds.map nameOf) s ∧ Tr H x (.tuple [sayP t, .int by_]) ∧ sayingD (ds.map nameOf) (sayP t) = true ∧ -1 ≤ by_ ∧ by_ < (rs.length : Nat) ∧
  ∀ H', Same H H' → Q (.bl (leadB (endsOf ds) rs s t by_)) H'
theorem says_get {H : Hp} : ∀ {os : List Addr} {gs : List Say} {i : Nat} {a : Addr}, SaysAt H os gs → os[i]? = some a → ∃ g, gs[i]? = some g ∧ H a = some (.tup (sayV g))
  | _, _, _, _, .nil, h => by simp at h
  | _, _, 0, _, .cons r _, h => by
    cases h
    exact ⟨_, rfl, r⟩
  | _, _, i + 1, _, .cons _ t, h => by
    rw [List.getElem?_cons_succ] at h
    obtain ⟨g, h1, h2⟩ := says_get t h
    exact ⟨g, by rw [List.getElem?_cons_succ]; exact h1, h2⟩
section
variable {P : Program} {w : World} {K : PySem.W.Frag} {mg : Str → Option Value} {base : Heap}
abbrev nLeads : List Str := ["layout", "saying", "link", "told", "by", "said"]
theorem scLeads : FnScope nLeads ["layout", "saying", "link"] (defScope sLeads) := ⟨rfl, rfl, rfl, by decide +kernel, rfl, by decide +kernel, by decide +kernel⟩
theorem ok_leads {f g1 g2 g3 g4 g5 C : Addr} {fd d1 d2 d3 d4 d5 : FuncData} (F : Fun K "leads_on" "leads_on" sLeads f fd) (B : Blt mg) (T : LayTxt K mg C) (mBY : ∃ t, mg "BY_ITSELF" = some (.int (-1) t)) (mA : mg "any" = none)
    (G1 : FnOk P w K mg base CX0 1 g1 d1 ["thing", "least", "most"] spTupOf) (b1 : Binds K d1 ["thing", "least", "most"] []) (k1 : PySem.W.keepIn K (.ref g1) = true) (m1 : mg "is_tuple_of" = some (.ref g1))
    (G2 : FnOk P w K mg base CX0 2 g2 d2 ["names", "thing"] spIsSaying) (b2 : Binds K d2 ["names", "thing"] []) (k2 : PySem.W.keepIn K (.ref g2) = true) (m2 : mg "is_saying" = some (.ref g2))
    (G3 : FnOk P w K mg base CX0 1 g3 d3 ["thing", "low", "high"] spWhole) (b3 : Binds K d3 ["thing", "low", "high"] []) (k3 : PySem.W.keepIn K (.ref g3) = true) (m3 : mg "is_whole" = some (.ref g3))
    (G4 : FnOk P w K mg base CX0 1 g4 d4 ["saying", "other"] spGives) (b4 : Binds K d4 ["saying", "other"] []) (k4 : PySem.W.keepIn K (.ref g4) = true) (m4 : mg "gives" = some (.ref g4))
    (G5 : FnOk P w K mg base CX0 4 g5 d5 ["layout", "rule", "saying"] (spGiven C)) (b5 : Binds K d5 ["layout", "rule", "saying"] []) (k5 : PySem.W.keepIn K (.ref g5) = true) (m5 : mg "given" = some (.ref g5)) :
    FnOk P w K mg base CX0 5 f fd ["layout", "saying", "link"] (spLeads C) := by
  refine F.ok scLeads (fun vs H Q E h => ?_) (fun cdv A outer s H vs Q E hr h => ?_)
  · obtain ⟨lx, nl, dl, rb, sp, a, x, ds, rs, s, t, by_, rfl, _⟩ := h
    rfl
  obtain ⟨lx, nl, dl, rb, sp, a, x, ds, rs, z, t, by_, rfl, ls, ha, hz, tx, hsay, hb1, hb2, k⟩ := h
  obtain ⟨tk, hby⟩ := mBY
  have hr1 : Room 1 _ := hr.mono (by decide)
  have hr2 : Room 2 _ := hr.mono (by decide)
  refine ⟨_, pss_cons (ps_if (pt_not (pt_val (pe_call G1 hr1 rfl m1 k1 b1 .nil pass0 (pa_cons (pv 2) (pa_cons pe_int (pa_cons pe_int pa_nil)))))) (pss_one (ps_ret pe_bl)) pss_nil) <|
    pss_cons (ps_asg (pv 2) (pg_tup (by rfl) (pgs_cons (pg_name (i := 3) scLeads.nd rfl (.inr rfl)) <| pgs_cons (pg_name (i := 4) scLeads.nd rfl (.inl rfl)) pgs_nil))) <|
    pss_cons (ps_if (PW.pt (pw_or (pt_not (pt_val (pe_call G2 hr2 rfl m2 k2 b2 .nil pass0 (pa_cons (pe_fld (pv 0) rfl) (pa_cons (pv 3) pa_nil))))) (pw_or1 (pt_not (pt_val (pe_call G3 hr1 rfl m3 k3 b3 .nil pass0 (pa_cons (pv 4) (pa_cons (pe_glob (v := .int (-1)) (by rfl) hby ⟨_, rfl⟩) (pa_cons (pe_op op_sub (pe_callB call_len_seq (by rfl) B.len PySem.boot_len (pa_cons (pe_fld (pv 0) rfl) pa_nil)) pe_int) pa_nil))))))))) (pss_one (ps_ret pe_bl)) pss_nil) <|
    pss_cons (ps_if (pt_cmpR op_eq (pv 4) (pe_glob (v := .int (-1)) (by rfl) hby ⟨_, rfl⟩) (nomark _)) (pss_one (ps_ret (pe_call G4 hr1 rfl m4 k4 b4 .nil pass0 (pa_cons (pv 1) (pa_cons (pv 3) pa_nil))))) pss_nil) <|
    pss_one (ps_ret (pe_callB (cr_any rfl) (by rfl) mA (by decide +kernel) (pa_cons (pe_lc (own := [("said", 5)]) (g := gName 5) (by rfl) scLeads.nd (pi_list (pe_call G5 hr rfl m5 k5 b5 .nil pass0 (pa_cons (pv 0) (pa_cons (pe_ix ix_tup (pe_fld (pv 0) rfl) (pv 4) (fun _ _ => rfl)) (pa_cons (pv 1) pa_nil))))) (blkOk_by (N := nLeads) (sc := defScope sLeads) (by decide +kernel)) (fun _ _ _ _ _ => pg_name (i := 5) scLeads.nd rfl (Or.inl rfl)) (fun _ _ _ _ _ => pts_nil) (fun _ _ _ _ _ => pe_call G4 hr1 rfl m4 k4 b4 .nil pass0 (pa_cons (pv 5) (pa_cons (pv 3) pa_nil)))) pa_nil))), ?_⟩
  obtain ⟨dx, fs, l1, l2, l3, l4, l5, l6⟩ := ls.L.ob
  obtain ⟨ts, _, _, _⟩ := sayK_of hsay
  have sl := sizeLine_eq
  have hlen : (rs.length : Nat) ≤ 40 := ls.g.r2
  cases tx with
  | @tup b xs _ hb al =>
  match xs, al with
  | [_, _], .cons t1 (.cons (.int _) .nil) =>
  obtain ⟨q, rfl, hq⟩ := say_tr t1
  obtain ⟨hb0, ts', _, _⟩ := sayK_of hsay
  have ts : SayH (ds.map nameOf) t := hb0
  have st1 := nmK_str ls.g ts.nm
  have st2 := sorts_ok _ ts.so
  have sz1 := nmK_str ls.g hz.nm
  have sz2 := sorts_ok _ hz.so
  obtain ⟨ys, hrb, alr⟩ : ∃ ys, H rb = some (.tup ys) ∧ TrAll H ys rs := by
    cases ls.L.ru with
    | tup h a => exact ⟨_, h, a⟩
  have yl := alr.length
  refine ⟨_, rfl, .ref b, _, 2, 2, rfl, .tup hb (.cons t1 (.cons (.int _) .nil)), _, rfl, iteF ?_⟩
  refine ⟨_, rfl, b, _, rfl, SqT.of hb, rfl, _, _, rfl, _, _, rfl, rfl, ?_⟩
  refine ⟨_, rfl, lx, C, dx, fs, _, rfl, l1, T.cl, T.nN, l2, _, rfl, nl, _, .ref q, _, rfl, ls.L.nm, t1, _, rfl, ?_⟩
  rw [hsay]
  refine iteF ⟨_, rfl, _, rfl, lx, C, dx, fs, _, rfl, l1, T.cl, T.nR, l4, rb, _, rfl, .inr (SqT.of hrb), _, _, rfl, rfl, .int by_, .int by_, -1, _, rfl, .int _, _, rfl, ?_⟩
  have hw : wholeD (-1) ((ys.length : Nat) - 1) (.int by_) = true := by
    rw [wholeD_int, decide_eq_true hb1, decide_eq_true (by omega)]
    rfl
  rw [hw]
  refine iteF ⟨_, rfl, rfl, _, rfl, ?_⟩
  unfold leadB at k
  by_cases c1 : by_ = -1
  · rw [if_pos c1] at k
    rw [decide_eq_true (show V.int by_ = V.int (-1) by rw [c1])]
    exact iteT ⟨_, rfl, _, rfl, a, q, z, t, rfl, ha, hq, sz1, sz2, st1, st2, k⟩
  · rw [if_neg c1] at k
    rw [decide_eq_false (fun e => c1 (V.int.inj e))]
    obtain ⟨n, rfl⟩ : ∃ n : Nat, by_ = (n : Int) := ⟨by_.toNat, by omega⟩
    have hn : n < ys.length := by omega
    have hyn : ys[n]? = some ys[n] := List.getElem?_eq_getElem hn
    obtain ⟨r, hr', tr⟩ := alr.get hyn
    obtain ⟨ra, era, hR, oR⟩ := rul_of tr (ls.g.rules r (List.mem_of_getElem? hr'))
    rw [Int.toNat_natCast, hr'] at k
    have ixr : atI ys ((n : Nat) : Int) = some (.ref ra) := by
      rw [← era]
      exact atI_nat hyn
    refine iteF ⟨_, rfl, _, rfl, lx, C, dx, fs, _, rfl, l1, T.cl, T.nR, l4, _, rfl, rb, _, _, _, rfl, rfl, SqT.of hrb, ixr, _, rfl, lx, nl, dl, rb, sp, ra, a, ds, rs, z, rulOf r, rfl, ls, hR, oR, ha, hz, fun l os H1 s1 hl hl1 says => ?_⟩
    have gok := given_ok (e := endsOf ds) oR hz
    have g2 := given_len (endsOf ds) (rulOf r) z
    have k : ∀ H', Same H H' → Q (.bl ((givenR (endsOf ds) (rulOf r) z).any fun u => giveS u t)) H' := k
    generalize givenR (endsOf ds) (rulOf r) z = gs at k says gok g2
    have gl := says.length
    refine ⟨l, rfl, ⟨_, SqL.of hl1⟩, fun D hD => lc_list (K := K) (a := l) (xs := os.map V.ref) (fun i H2 => H2 D = some (.lst (((gs.take i).map fun u => giveS u t).map V.bl)) ∧ Same H1 H2)
      ⟨upd_same, sameNew hD _⟩ (fun i H2 _ ⟨_, s2⟩ => SqL.of (s2 _ _ hl1)) ?_ ?_⟩
    · rintro i y H2 hy ⟨hD2, s2⟩
      rw [List.getElem?_map] at hy
      obtain ⟨oa, hoa, rfl⟩ := Option.map_eq_some_iff.mp hy
      obtain ⟨u, hu, hau⟩ := says_get says hoa
      have us := gok u (List.mem_of_getElem? hu)
      have il := (List.getElem?_eq_some_iff.mp hu).1
      refine ⟨rfl, _, rfl, _, rfl, oa, q, u, t, rfl, s2 _ _ hau, s2 _ _ (s1 _ _ hq), nmK_str ls.g us.nm, sorts_ok _ us.so, st1, st2, fun H3 s3 => ?_⟩
      refine ⟨_, s3 _ _ hD2, by rw [List.length_map, List.length_map, List.length_take]; omega, ?_, fun b' o' e => ?_⟩
      · rw [upd_same, take_more hu, List.map_append, List.map_append]
        rfl
      · rw [upd_ne (ne_of_none e hD)]
        exact s3 _ _ (s2 _ _ e)
    · rintro H2 ⟨hD2, s2⟩
      rw [List.length_map, gl, List.take_length] at hD2
      refine ⟨D, _, rfl, SqL.of hD2, ?_⟩
      have e : (gs.map fun u => giveS u t).any id = gs.any fun u => giveS u t := by rw [List.any_map]; rfl
      rw [e]
      exact k H2 (s1.trans s2)
end
end Pk
end
/-! The law's own: dials, numbers. -/
namespace Pk
open PySem L2
/-- a dial whose span is no wider than wd -/
def spanLe (wd : Int) : PyData → Prop
  | .tuple [_, .int lo, .int hi, _, _, _] => hi - lo ≤ wd
  | _ => True
def spDials : Sp := fun vs H Q _ => ∃ (p c : Addr) (X : List Addr) (n wd : Int) (m : Nat), vs = [.ref p, .int (m : Nat), .int wd] ∧ 0 ≤ wd ∧ wd ≤ 1000000000000000000 ∧ PenC H p c n ∧ Al p X H ∧ n ≤ 300000000 ∧ 1 ≤ m ∧ m ≤ 12 ∧
  ∀ (t : Addr) (ds : List PyData) (H' : Hp), PenC H' p c (n + 200) → Sb p H H' → Tr (zn X H') (.ref t) (.tuple ds) → 1 ≤ ds.length → ds.length ≤ m → (∀ d ∈ ds, DialG d ∧ spanLe wd d) → (ds.map nameOf).Nodup → PyProof.Rows.sortedS (ds.map nameOf) = true → Q (.ref t) H'
abbrev nDials : List Str := ["_law_pen_here", "_law_many", "_law_wide", "_law_found", "_law_name", "_law_low", "_law_high", "_law_way"]
theorem ways_mem {x : V} (h : x ∈ [V.str "both", V.str "both", V.str "up", V.str "down"]) : ∃ so ∈ ways3, x = .str so := by
  simp only [List.mem_cons, List.not_mem_nil, or_false] at h
  rcases h with rfl | rfl | rfl | rfl <;> exact ⟨_, by decide +kernel, rfl⟩
section
variable {P : Program} {w : World} {K : PySem.W.Frag} {mg : Str → Option Value} {base : Heap}
theorem scDials : FnScope nDials ["_law_pen_here", "_law_many", "_law_wide"] (defScope sDials) := ⟨rfl, rfl, rfl, by decide +kernel, rfl, by decide +kernel, by decide +kernel⟩
set_option maxHeartbeats 1000000 in
theorem ok_dials {f g g2 g3 : Addr} {fd gd gd2 gd3 : FuncData} (F : Fun K "_law_dials" "_law_dials" sDials f fd) (G : FnOk P w K mg base CX0 1 g gd ["_law_pen_here", "_law_many"] spDrawC) (bG : Binds K gd ["_law_pen_here", "_law_many"] []) (kG : PySem.W.keepIn K (.ref g) = true) (mG : mg "_law_draw" = some (.ref g))
    (G2 : FnOk P w K mg base CX0 2 g2 gd2 ["_law_pen_here", "_law_lot"] spPick) (bG2 : Binds K gd2 ["_law_pen_here", "_law_lot"] []) (kG2 : PySem.W.keepIn K (.ref g2) = true) (mG2 : mg "_law_pick" = some (.ref g2))
    (G3 : FnOk P w K mg base CX0 3 g3 gd3 ["_law_pen_here", "_law_many"] spNames) (bG3 : Binds K gd3 ["_law_pen_here", "_law_many"] []) (kG3 : PySem.W.keepIn K (.ref g3) = true) (mG3 : mg "_law_names" = some (.ref g3)) (B : Blt mg) :
    FnOk P w K mg base CX0 4 f fd ["_law_pen_here", "_law_many", "_law_wide"] spDials := by
  refine F.ok scDials (fun vs H Q E h => ?_) (fun cdv A outer s H vs Q E hr h => ?_)
  · obtain ⟨p, c, X, n, wd, m, rfl, _⟩ := h
    rfl
  obtain ⟨p, c, X, n, wd, m, rfl, wd1, wd2, pen, al, hn, m1, m2, k⟩ := h
  have hr1 : Room 1 _ := hr.mono (by decide)
  have hr2 : Room 2 _ := hr.mono (by decide)
  refine ⟨_, pss_cons (ps_set (i := 3) scDials.nd rfl (.inl rfl) (pe_lst pa_nil)) <|
    pss_cons (ps_for PassesOwn.never rfl (pi_list (pe_call G3 hr rfl mG3 kG3 bG3 .nil pass0 (pa_cons (pv 0) (pa_cons (pv 1) pa_nil)))) (pg_name (i := 4) scDials.nd rfl (.inl rfl))
      (pss_cons (ps_set (i := 5) scDials.nd rfl (.inl rfl) (pe_call G2 hr2 rfl mG2 kG2 bG2 .nil pass0 (pa_cons (pv 0) (pa_cons (pe_lst (pa_cons pe_int <| pa_cons pe_int <| pa_cons (pe_op op_add pe_int (pe_call G hr1 rfl mG kG bG .nil pass0 (pa_cons (pv 0) (pa_cons pe_int pa_nil)))) <| pa_cons (pe_op op_sub pe_int (pe_call G hr1 rfl mG kG bG .nil pass0 (pa_cons (pv 0) (pa_cons pe_int pa_nil)))) <| pa_cons (pe_op op_fdiv (pv 2) pe_int) <| pa_cons (pe_op op_sub pe_int (pe_op op_fdiv (pv 2) pe_int)) pa_nil)) pa_nil))))
      (pss_cons (ps_set (i := 6) scDials.nd rfl (.inl rfl) (pe_callB (call_min2 rfl) (by rfl) B.min (by decide +kernel) (pa_cons (pe_op op_pow pe_int pe_int) (pa_cons (pe_op op_add (pv 5) (pe_call G2 hr2 rfl mG2 kG2 bG2 .nil pass0 (pa_cons (pv 0) (pa_cons (pe_lst (pa_cons (pv 2) <| pa_cons (pv 2) <| pa_cons (pe_call G hr1 rfl mG kG bG .nil pass0 (pa_cons (pv 0) (pa_cons (pe_op op_add (pv 2) pe_int) pa_nil))) <| pa_cons (pe_op op_fdiv (pv 2) pe_int) pa_nil)) pa_nil)))) pa_nil))))
      (pss_cons (ps_set (i := 7) scDials.nd rfl (.inl rfl) (pe_call G2 hr2 rfl mG2 kG2 bG2 .nil pass0 (pa_cons (pv 0) (pa_cons (pe_lst (pa_cons pe_str <| pa_cons pe_str <| pa_cons pe_str <| pa_cons pe_str pa_nil)) pa_nil))))
      (pss_one (ps_expr (pe_bm PySem.F.plainAttrs_list PySem.F.slot_list_append PySem.F.type_list_append mt_append (pv 3) (pa_cons (pe_tup (pa_cons (pv 4) <| pa_cons (pv 5) <| pa_cons (pv 6) <| pa_cons (pv 7) <|
        pa_cons (pe_op op_add pe_int (pe_call G hr1 rfl mG kG bG .nil pass0 (pa_cons (pv 0) (pa_cons (pe_call G2 hr2 rfl mG2 kG2 bG2 .nil pass0 (pa_cons (pv 0) (pa_cons (pe_lst (pa_cons pe_int <| pa_cons pe_int <| pa_cons (pe_op op_pow pe_int pe_int) pa_nil)) pa_nil))) pa_nil)))) <|
        pa_cons (pe_op op_add pe_int (pe_call G hr1 rfl mG kG bG .nil pass0 (pa_cons (pv 0) (pa_cons pe_int pa_nil)))) pa_nil)) pa_nil)))))))) <|
    pss_one (ps_ret (pe_callTy call_tuple_of (by rfl) B.tuple (by decide +kernel) (pa_cons (pv 3) pa_nil))), ?_⟩
  have fg := farG
  refine ⟨by show 0 ≤ sizeLine; decide, fun D hD => ?_⟩
  have sD := sameNew hD (.lst [])
  have Dp := pen.newp hD
  have Dc := pen.newc hD
  refine ⟨_, rfl, _, rfl, p, c, n, m, rfl, pen.same sD, by omega, m1, m2, fun l ss H1 pen1 sb1 nl hl l1 l2 hok hok8 nd srt => ?_⟩
  have hD1 := sb1.to Dp (upd_same (H := H) (a := D) (o := .lst []))
  have sbA : Sb p H H1 := (Sb.same sD).trans sb1
  have lD : l ≠ D := fun z => by rw [z, upd_same] at nl; cases nl
  have lp : l ≠ p := (pen.same sD).newp nl
  refine ⟨l, rfl, ⟨_, SqL.of hl⟩, for_list (K := K) (a := l) (xs := ss.map V.str) (fun i σ H3 => ∃ (v4 v5 v6 v7 : Option V) (xs : List V) (ds : List PyData), σ = [some (.ref p), some (.int (m : Nat)), some (.int wd), some (.ref D), v4, v5, v6, v7] ∧ H3 D = some (.lst xs) ∧ H3 l = some (.lst (ss.map V.str)) ∧ TrAll (zn (D :: X) H3) xs ds ∧ ds.length = i ∧ (∀ d ∈ ds, DialG d ∧ spanLe wd d) ∧ ds.map nameOf = ss.take i ∧ PenC H3 p c (n + 30 + 10 * i) ∧ Sb p H H3)
    ⟨none, none, none, none, [], [], rfl, hD1, hl, .nil, rfl, fun _ h => absurd h (by simp), rfl, pen1.mono (by omega), sbA⟩ (fun i σ H3 _ ⟨_, _, _, _, _, _, _, _, q, _⟩ => SqL.of q) ?_ ?_⟩
  · rintro i y σ H3 hy ⟨v4, v5, v6, v7, xs, ds, rfl, e1, el, e2, e3, e4, e4n, pen3, sb3⟩
    rw [List.getElem?_map] at hy
    obtain ⟨z, hz, rfl⟩ := Option.map_eq_some_iff.mp hy
    have hil : i < ss.length := (List.getElem?_eq_some_iff.mp hz).1
    have al3 : Al p (D :: X) H3 := (al.sb sb3 pen3).cons e1
    -- low
    refine ⟨_, rfl, _, rfl, p, c, _, _, rfl, pen3, by omega, by decide, by decide, fun w1 H4 a1 a2 pen4 sb4 => ?_⟩
    refine ⟨_, _, rfl, rfl, _, rfl, p, c, _, _, rfl, pen4, by omega, by decide, by decide, fun w2 H5 a3 a4 pen5 sb5 => ?_⟩
    refine ⟨_, _, rfl, rfl, _, rfl, _, _, rfl, rfl, ⟨by decide, by decide⟩, _, rfl, _, _, rfl, rfl, ⟨by decide, by decide⟩, _, _, rfl, rfl, by show 6 ≤ sizeLine; decide, fun e he => ?_⟩
    refine .inl ⟨p, c, e, _, _, rfl, pen5.same (sameNew he _), by omega, pen5.newp he, .inl upd_same, by simp, by simp, fun x H6 hx pen6 sb6 => ?_⟩
    obtain ⟨lo, rfl, lo1, lo2⟩ : ∃ lo : Int, x = .int lo ∧ -farS ≤ lo ∧ lo ≤ 600000000000000000 := by
      simp only [List.mem_cons, List.not_mem_nil, or_false] at hx
      rcases hx with rfl | rfl | rfl | rfl | rfl | rfl <;> exact ⟨_, rfl, by omega, by omega⟩
    have sb6' : Sb p H3 H6 := sb4.trans (sb5.trans ((Sb.same (sameNew he _)).trans sb6))
    clear hx sb4 sb5 sb6 pen4 pen5 he
    -- high
    refine ⟨_, _, rfl, rfl, ⟨by decide, by decide, by decide⟩, _, rfl, _, rfl, _, rfl, _, rfl, _, rfl, _, rfl, _, _, rfl, rfl, p, c, _, _, rfl, pen6, by omega, by omega, by omega, fun w3 H7 a5 a6 pen7 sb7 => ?_⟩
    refine ⟨_, rfl, _, _, rfl, rfl, ⟨by decide, by decide⟩, by show 4 ≤ sizeLine; decide, fun e he => ?_⟩
    refine .inl ⟨p, c, e, _, _, rfl, pen7.same (sameNew he _), by omega, pen7.newp he, .inl upd_same, by simp, by simp, fun x H8 hx pen8 sb8 => ?_⟩
    obtain ⟨sp, rfl, sp1, sp2⟩ : ∃ sp : Int, x = .int sp ∧ 0 ≤ sp ∧ sp ≤ wd := by
      simp only [List.mem_cons, List.not_mem_nil, or_false] at hx
      rcases hx with rfl | rfl | rfl | rfl <;> exact ⟨_, rfl, by omega, by omega⟩
    have sb8' : Sb p H3 H8 := sb6'.trans (sb7.trans ((Sb.same (sameNew he _)).trans sb8))
    clear hx sb7 sb8 pen7 he pen6 sb6'
    refine ⟨_, _, rfl, rfl, _, _, rfl, ?_⟩
    obtain ⟨hi, ehi, hi1, hi2, hi3⟩ : ∃ hi : Int, (if lo + sp < 10 ^ (18 : Int).toNat then lo + sp else 10 ^ (18 : Int).toNat) = hi ∧ lo ≤ hi ∧ hi ≤ farS ∧ hi - lo ≤ wd := by
      rw [ints10]
      refine ⟨_, rfl, ?_, ?_, ?_⟩ <;> split <;> omega
    rw [ehi]
    -- way
    refine ⟨_, rfl, by show 4 ≤ sizeLine; decide, fun e he => ?_⟩
    refine .inl ⟨p, c, e, _, _, rfl, pen8.same (sameNew he _), by omega, pen8.newp he, .inl upd_same, by simp, by simp, fun x H9 hx pen9 sb9 => ?_⟩
    obtain ⟨way, hway, rfl⟩ := ways_mem hx
    have sb9' : Sb p H3 H9 := sb8'.trans ((Sb.same (sameNew he _)).trans sb9)
    clear hx sb9 pen8 he sb8'
    have e19 := sb9'.to Dp e1
    -- the dial
    refine ⟨_, rfl, .inl ⟨rfl, _, SqL.of e19⟩, _, rfl, _, rfl, _, rfl, _, rfl, _, rfl, _, rfl, _, _, rfl, rfl, ⟨by decide, by decide, by decide⟩, by show 3 ≤ sizeLine; decide, fun e he => ?_⟩
    refine .inl ⟨p, c, e, _, _, rfl, pen9.same (sameNew he _), by omega, pen9.newp he, .inl upd_same, by simp, by simp, fun x H10 hx pen10 sb10 => ?_⟩
    obtain ⟨mu, rfl, mu1, mu2⟩ : ∃ mu : Int, x = .int mu ∧ 1 ≤ mu ∧ mu ≤ 1000000 := by
      simp only [List.mem_cons, List.not_mem_nil, or_false] at hx
      rcases hx with rfl | rfl | rfl <;> exact ⟨_, rfl, by decide, by decide⟩
    refine ⟨p, c, _, _, rfl, pen10, by omega, mu1, by omega, fun up H11 a7 a8 pen11 sb11 => ?_⟩
    refine ⟨_, _, rfl, rfl, _, rfl, p, c, _, _, rfl, pen11, by omega, by decide, by decide, fun dn H12 a9 a10 pen12 sb12 => ?_⟩
    have sbB : Sb p H3 H12 := sb9'.trans ((Sb.same (sameNew he _)).trans (sb10.trans (sb11.trans sb12)))
    clear hx sb10 sb11 sb12 pen9 pen10 pen11 he sb9'
    refine ⟨_, _, rfl, rfl, by show 6 ≤ sizeLine; decide, fun t nt => ?_⟩
    have st := sameNew nt (.tup [.str z, .int lo, .int hi, .str way, .int (1 + up), .int (1 + dn)])
    have tZ : t ∉ D :: X := (al3.sb sbB pen12).out nt
    have tD : t ≠ D := fun z => tZ (by rw [z]; exact List.mem_cons_self)
    have xl := e2.length
    refine ⟨D, _, _, rfl, rfl, st _ _ (sbB.to Dp e1), small1000 (by omega), ?_⟩
    refine ⟨_, _, _, _, xs ++ [.ref t], ds ++ [.tuple [.str z, .int lo, .int hi, .str way, .int (1 + up), .int (1 + dn)]], rfl, upd_same, by rw [upd_ne lD]; exact st _ _ (sbB.to lp el), .snoc (e2.same ((zn_sb sbB al3.mem).trans ((zn_mono st).trans (zn_upd List.mem_cons_self)))) (.tup ?_ (.cons (.str _) (.cons (.int _) (.cons (.int _) (.cons (.str _) (.cons (.int _) (.cons (.int _) .nil))))))), by simp [e3], fun d hd => ?_, ?_, ?_, ((sb3.trans sbB).trans (Sb.same st)).new hD Dp _⟩
    · rw [zn_out tZ, upd_ne tD, upd_same]
    · rcases List.mem_append.mp hd with hd | hd
      · exact e4 d hd
      · rw [List.mem_singleton.mp hd]
        exact ⟨⟨z, way, lo, hi, _, _, rfl, hok z (List.mem_of_getElem? hz), hok8 z (List.mem_of_getElem? hz), hway, lo1, hi1, hi2, by omega, by omega, by omega, by omega⟩, hi3⟩
    · rw [List.map_append, e4n, take_more hz]
      rfl
    · exact ((pen12.same st).upd Dp Dc _).mono (by omega)
  rintro σ H3 ⟨v4, v5, v6, v7, xs, ds, rfl, e1, el, e2, e3, e4, e4n, pen3, sb3⟩
  rw [List.length_map] at e3 pen3 e4n
  rw [List.take_length] at e4n
  have al3 := al.sb sb3 pen3
  refine ⟨_, rfl, D, _, rfl, .inl ⟨SqL.of e1, fun t nt => ?_⟩⟩
  have st := sameNew nt (.tup xs)
  have tZ := al3.out nt
  exact k t ds _ ((pen3.same st).mono (by omega)) (sb3.trans (Sb.same st)) (.tup (by rw [zn_out tZ, upd_same]) (e2.same (zn_drop.trans (zn_mono st)))) (by omega) (by omega) e4 (by rw [e4n]; exact nd) (by rw [e4n]; exact srt)
end
end Pk
/-! The law's own: numbers, saying, said, rule. -/
namespace Pk
open PySem L2
/-- dials at t, apart from X -/
structure DialsAt (X : List Addr) (H : Hp) (t : Addr) (wd : Int) (ds : List PyData) : Prop where
  tr : Tr (zn X H) (.ref t) (.tuple ds)
  d1 : 1 ≤ ds.length
  d2 : ds.length ≤ 12
  ok : ∀ d ∈ ds, DialG d ∧ spanLe wd d
theorem DialsAt.sb {p : Addr} {X : List Addr} {H H' : Hp} {t : Addr} {wd : Int} {ds : List PyData} (a : DialsAt X H t wd ds) (s : Sb p H H') (hp : p ∈ X) : DialsAt X H' t wd ds := ⟨a.tr.same (zn_sb s hp), a.d1, a.d2, a.ok⟩
theorem DialsAt.same {X : List Addr} {H H' : Hp} {t : Addr} {wd : Int} {ds : List PyData} (a : DialsAt X H t wd ds) (s : Same (zn X H) (zn X H')) : DialsAt X H' t wd ds := ⟨a.tr.same s, a.d1, a.d2, a.ok⟩
theorem DialsAt.un {X : List Addr} {H : Hp} {t : Addr} {wd : Int} {ds : List PyData} (a : DialsAt X H t wd ds) : ∃ xs, H t = some (.tup xs) ∧ t ∉ X ∧ TrAll (zn X H) xs ds := by
  cases a.tr with
  | @tup _ xs _ h al =>
    obtain ⟨h1, h2⟩ := zn_some h
    exact ⟨xs, h2, h1, al⟩
theorem TrAll.mem {H : Hp} {xs : List V} {ds : List PyData} {x : V} (t : TrAll H xs ds) (h : x ∈ xs) : ∃ d ∈ ds, Tr H x d := by
  obtain ⟨j, hj, e⟩ := List.getElem_of_mem h
  obtain ⟨d, hd, td⟩ := t.get (i := j) (v := x) (by rw [List.getElem?_eq_getElem hj, e])
  exact ⟨d, List.mem_of_getElem? hd, td⟩
theorem span_is {wd : Int} {d : PyData} {nm way : Str} {lo hi up dn : Int} (h : spanLe wd d) (e : d = .tuple [.str nm, .int lo, .int hi, .str way, .int up, .int dn]) : hi - lo ≤ wd := by
  subst e
  exact h
def spLNums : Sp := fun vs H Q _ => ∃ (p c t : Addr) (X : List Addr) (n wd : Int) (ds : List PyData), vs = [.ref p, .ref t] ∧ 0 ≤ wd ∧ wd ≤ 1000000000000000000 ∧ PenC H p c n ∧ Al p X H ∧ n ≤ 300000000 ∧ DialsAt X H t wd ds ∧
  ∀ (y : Addr) (is : List Int) (H' : Hp), PenC H' p c (n + 30) → Sb p H H' → H' y = some (.tup (is.map V.int)) → y ∉ X → is.length = ds.length → (∀ j ∈ is, -farS ≤ j ∧ j ≤ farS) → (∀ p ∈ ds.zip is, inSpan p.1 p.2) → Q (.ref y) H'
abbrev nLNums : List Str := ["_law_pen_here", "_law_dials_here", "_law_found", "_law_name", "_law_low", "_law_high", "_law_way", "_law_up", "_law_down", "_law_number"]
/-- a dict of the dials' numbers -/
structure AtD (H : Hp) (d : Addr) (ds : List PyData) (es : List (Str × Int)) : Prop where
  at_ : H d = some (.dK (es.map kvOf))
  keys : es.map (·.1) = ds.map nameOf
  far : ∀ e ∈ es, -farS ≤ e.2 ∧ e.2 ≤ farS
theorem AtD.to {H H' : Hp} {d : Addr} {ds : List PyData} {es : List (Str × Int)} (a : AtD H d ds es) (h : H' d = some (.dK (es.map kvOf))) : AtD H' d ds es := ⟨h, a.keys, a.far⟩
theorem AtD.same {H H' : Hp} {d : Addr} {ds : List PyData} {es : List (Str × Int)} (a : AtD H d ds es) (s : Same H H') : AtD H' d ds es := a.to (s _ _ a.at_)
theorem AtD.ne {H : Hp} {d p c : Addr} {n : Int} {ds : List PyData} {es : List (Str × Int)} (a : AtD H d ds es) (P : PenC H p c n) : d ≠ p := fun z => by
  obtain ⟨kv, h⟩ := P.atp
  rw [← z, a.at_] at h
  cases h
theorem AtD.sb {H H' : Hp} {d p c : Addr} {n : Int} {ds : List PyData} {es : List (Str × Int)} (a : AtD H d ds es) (P : PenC H p c n) (s : Sb p H H') : AtD H' d ds es := a.to (s.to (a.ne P) a.at_)
theorem AtD.look {H : Hp} {d : Addr} {ds : List PyData} {es : List (Str × Int)} {z : Str} (a : AtD H d ds es) (h : z ∈ ds.map nameOf) : DGet H d (.str z) (some (.int (lookE es z))) ∧ -farS ≤ lookE es z ∧ lookE es z ≤ farS := by
  rw [← a.keys] at h
  refine ⟨look_dg a.at_ h, ?_⟩
  obtain ⟨i, h1, h2⟩ := val_kv h
  have q : lookE es z = i := by
    unfold lookE
    rw [h2]
  rw [q]
  exact a.far _ h1
def spSayW : Sp := fun vs H Q _ => ∃ (p c t d : Addr) (X : List Addr) (n wd : Int) (ds : List PyData) (es : List (Str × Int)), vs = [.ref p, .ref t, .ref d] ∧ 0 ≤ wd ∧ wd ≤ 1000000000000000000 ∧ PenC H p c n ∧ Al p X H ∧ n ≤ 300000000 ∧ DialsAt X H t wd ds ∧ AtD H d ds es ∧
  ∀ (s : Addr) (z so : Str) (i : Int) (H' : Hp), PenC H' p c (n + 6) → Sb p H H' → H' s = some (.tup [.str z, .str so, .int i]) → s ∉ X → z ∈ ds.map nameOf → so ∈ sorts2 → -(2 * farS) ≤ i → i ≤ 2 * farS → Q (.ref s) H'
abbrev nSay : List Str := ["_law_pen_here", "_law_dials_here", "_law_at_here", "_law_name", "_law_low", "_law_high", "_law_way", "_law_up", "_law_down", "_law_by"]
/-- a rule whose own number is no great one -/
def SmallR (r : PyData) : Prop := ∀ w a b c, r = .tuple [.str w, .str a, .str b, .int c] → -(4 * farS) ≤ c ∧ c ≤ 4 * farS
def spRuleW : Sp := fun vs H Q _ => ∃ (p c t d : Addr) (X : List Addr) (n wd : Int) (ds : List PyData) (es : List (Str × Int)), vs = [.ref p, .ref t, .ref d] ∧ 0 ≤ wd ∧ wd ≤ 1000000000000000000 ∧ PenC H p c n ∧ Al p X H ∧ n ≤ 200000000 ∧ DialsAt X H t wd ds ∧ (ds.map nameOf).Nodup ∧ AtD H d ds es ∧
  ∀ (r : Addr) (rd : PyData) (H' : Hp), PenC H' p c (n + 30) → Sb p H H' → Tr (zn X H') (.ref r) rd → RuleG (ds.map nameOf) rd → SmallR rd → Q (.ref r) H'
abbrev nLRule : List Str := ["_law_pen_here", "_law_dials_here", "_law_at_here", "_law_word", "_law_first", "_law_second", "_law_k", "_law_one", "_law_other", "_law_slack"]
section
variable {P : Program} {w : World} {K : PySem.W.Frag} {mg : Str → Option Value} {base : Heap}
theorem scLNums : FnScope nLNums ["_law_pen_here", "_law_dials_here"] (defScope sLNums) := ⟨rfl, rfl, rfl, by decide +kernel, rfl, by decide +kernel, by decide +kernel⟩
set_option maxHeartbeats 1000000 in
theorem ok_lnums {f g g2 : Addr} {fd gd gd2 : FuncData} (F : Fun K "_law_numbers" "_law_numbers" sLNums f fd) (G : FnOk P w K mg base CX0 1 g gd ["_law_pen_here", "_law_many"] spDrawC) (bG : Binds K gd ["_law_pen_here", "_law_many"] []) (kG : PySem.W.keepIn K (.ref g) = true) (mG : mg "_law_draw" = some (.ref g))
    (G2 : FnOk P w K mg base CX0 2 g2 gd2 ["_law_pen_here", "_law_lot"] spPick) (bG2 : Binds K gd2 ["_law_pen_here", "_law_lot"] []) (kG2 : PySem.W.keepIn K (.ref g2) = true) (mG2 : mg "_law_pick" = some (.ref g2)) (B : Blt mg) :
    FnOk P w K mg base CX0 3 f fd ["_law_pen_here", "_law_dials_here"] spLNums := by
  refine F.ok scLNums (fun vs H Q E h => ?_) (fun cdv A outer s H vs Q E hr h => ?_)
  · obtain ⟨p, c, t, X, n, wd, ds, rfl, _⟩ := h
    rfl
  obtain ⟨p, c, t, X, n, wd, ds, rfl, wd1, wd2, pen, al, hn, da, k⟩ := h
  have hr1 : Room 1 _ := hr.mono (by decide)
  have hr2 : Room 2 _ := hr
  refine ⟨_, pss_cons (ps_set (i := 2) scLNums.nd rfl (.inl rfl) (pe_lst pa_nil)) <|
    pss_cons (ps_for PassesOwn.never rfl (pi_tup (pv 1)) (pg_tup (by rfl) (pgs_cons (pg_name (i := 3) scLNums.nd rfl (.inl rfl)) <| pgs_cons (pg_name (i := 4) scLNums.nd rfl (.inl rfl)) <| pgs_cons (pg_name (i := 5) scLNums.nd rfl (.inl rfl)) <| pgs_cons (pg_name (i := 6) scLNums.nd rfl (.inl rfl)) <| pgs_cons (pg_name (i := 7) scLNums.nd rfl (.inl rfl)) <| pgs_cons (pg_name (i := 8) scLNums.nd rfl (.inl rfl)) pgs_nil))
      (pss_cons (ps_set (i := 9) scLNums.nd rfl (.inl rfl) (pe_call G2 hr2 rfl mG2 kG2 bG2 .nil pass0 (pa_cons (pv 0) (pa_cons (pe_lst (pa_cons (pv 4) <| pa_cons (pv 5) <| pa_cons (pe_op op_add (pv 4) (pe_op op_fdiv (pe_op op_sub (pv 5) (pv 4)) pe_int)) <| pa_cons (pe_op op_add (pv 4) (pe_call G hr1 rfl mG kG bG .nil pass0 (pa_cons (pv 0) (pa_cons (pe_op op_add (pe_op op_sub (pv 5) (pv 4)) pe_int) pa_nil)))) pa_nil)) pa_nil))))
      (pss_one (ps_expr (pe_bm PySem.F.plainAttrs_list PySem.F.slot_list_append PySem.F.type_list_append mt_append (pv 2) (pa_cons (pv 9) pa_nil)))))) <|
    pss_one (ps_ret (pe_callTy call_tuple_of (by rfl) B.tuple (by decide +kernel) (pa_cons (pv 2) pa_nil))), ?_⟩
  obtain ⟨xs, ht, tX, alA⟩ := da.un
  have tp : t ≠ p := fun z => tX (by rw [z]; exact al.mem)
  refine ⟨by show 0 ≤ sizeLine; decide, fun D hD => ?_⟩
  have sD := sameNew hD (.lst [])
  have Dp := pen.newp hD
  have Dc := pen.newc hD
  have xl := alA.length
  have d2 := da.d2
  refine ⟨_, rfl, t, rfl, ⟨_, SqT.of (sD _ _ ht)⟩, for_tup (K := K) (a := t) (xs := xs) (fun i σ H3 => ∃ (v3 v4 v5 v6 v7 v8 v9 : Option V) (is : List Int), σ = [some (.ref p), some (.ref t), some (.ref D), v3, v4, v5, v6, v7, v8, v9] ∧ H3 D = some (.lst (is.map V.int)) ∧ is.length = i ∧ ((∀ j ∈ is, -farS ≤ j ∧ j ≤ farS) ∧ ∀ p ∈ ds.zip is, inSpan p.1 p.2) ∧ PenC H3 p c (n + 2 * i) ∧ Sb p H H3)
    ⟨none, none, none, none, none, none, none, [], rfl, upd_same, rfl, ⟨fun _ h => absurd h (by simp), fun _ h => absurd h (by simp)⟩, (pen.same sD).mono (by omega), Sb.same sD⟩ (fun i σ H3 _ ⟨_, _, _, _, _, _, _, _, _, _, _, _, _, s3⟩ => SqT.of (s3.to tp ht)) ?_ ?_⟩
  · rintro i y σ H3 hy ⟨v3, v4, v5, v6, v7, v8, v9, is, rfl, e1, e2, ⟨e3, e4⟩, pen3, sb3⟩
    have hil : i < xs.length := (List.getElem?_eq_some_iff.mp hy).1
    obtain ⟨d, hd, tr⟩ := alA.get hy
    have hdm := da.ok d (List.mem_of_getElem? hd)
    obtain ⟨b, nm, way, lo, hi, up, dn, rfl, hb, q1, q2, q3, _, ed⟩ := dial_tup (tr.same (zn_sb sb3 al.mem)) hdm.1
    have hb := zn_le _ _ hb
    have hsp := span_is hdm.2 ed
    refine ⟨b, _, rfl, SqT.of hb, rfl, _, _, rfl, _, _, rfl, _, _, rfl, _, _, rfl, _, _, rfl, _, _, rfl, rfl, ?_⟩
    refine ⟨_, rfl, _, rfl, _, rfl, _, rfl, _, rfl, _, rfl, _, _, rfl, rfl, _, _, rfl, rfl, ⟨by decide, by decide⟩, _, _, rfl, rfl, _, rfl, _, rfl, _, rfl, _, rfl, _, _, rfl, rfl, _, _, rfl, rfl, p, c, _, _, rfl, pen3, by omega, by omega, by omega, fun w1 H4 a1 a2 pen4 sb4 => ?_⟩
    refine ⟨_, _, rfl, rfl, by show 4 ≤ sizeLine; decide, fun e he => ?_⟩
    refine .inl ⟨p, c, e, _, _, rfl, pen4.same (sameNew he _), by omega, pen4.newp he, .inl upd_same, by simp, by simp, fun x H5 hx pen5 sb5 => ?_⟩
    obtain ⟨v, rfl, v1, v2⟩ : ∃ v : Int, x = .int v ∧ lo ≤ v ∧ v ≤ hi := by
      simp only [List.mem_cons, List.not_mem_nil, or_false] at hx
      rcases hx with rfl | rfl | rfl | rfl <;> exact ⟨_, rfl, by omega, by omega⟩
    have sbB : Sb p H3 H5 := sb4.trans ((Sb.same (sameNew he _)).trans sb5)
    have e15 := sbB.to Dp e1
    refine ⟨_, rfl, .inl ⟨rfl, _, SqL.of e15⟩, _, rfl, D, _, _, rfl, rfl, e15, small1000 (by rw [List.length_map]; omega), ?_⟩
    refine ⟨_, _, _, _, _, _, _, is ++ [v], rfl, by rw [upd_same, List.map_append]; rfl, by simp [e2], ⟨fun j hj => ?_, zip_snoc e2 hd e4 (by rw [ed]; exact ⟨v1, v2⟩)⟩, (pen5.upd Dp Dc _).mono (by omega), (sb3.trans sbB).new hD Dp _⟩
    rcases List.mem_append.mp hj with hj | hj
    · exact e3 j hj
    · rw [List.mem_singleton.mp hj]
      omega
  rintro σ H3 ⟨v3, v4, v5, v6, v7, v8, v9, is, rfl, e1, e2, ⟨e3, e4⟩, pen3, sb3⟩
  refine ⟨_, rfl, D, _, rfl, .inl ⟨SqL.of e1, fun y ny => ?_⟩⟩
  have sy := sameNew ny (.tup (is.map V.int))
  exact k y is _ ((pen3.same sy).mono (by omega)) (sb3.trans (Sb.same sy)) upd_same ((al.sb sb3 pen3).out ny) (by omega) e3 e4
theorem scSayL : FnScope nSay ["_law_pen_here", "_law_dials_here", "_law_at_here"] (defScope sSay) := ⟨rfl, rfl, rfl, by decide +kernel, rfl, by decide +kernel, by decide +kernel⟩
set_option maxHeartbeats 1000000 in
theorem ok_sayL {f g g2 : Addr} {fd gd gd2 : FuncData} (F : Fun K "_law_saying" "_law_saying" sSay f fd) (G : FnOk P w K mg base CX0 1 g gd ["_law_pen_here", "_law_many"] spDrawC) (bG : Binds K gd ["_law_pen_here", "_law_many"] []) (kG : PySem.W.keepIn K (.ref g) = true) (mG : mg "_law_draw" = some (.ref g))
    (G2 : FnOk P w K mg base CX0 2 g2 gd2 ["_law_pen_here", "_law_lot"] spPick) (bG2 : Binds K gd2 ["_law_pen_here", "_law_lot"] []) (kG2 : PySem.W.keepIn K (.ref g2) = true) (mG2 : mg "_law_pick" = some (.ref g2)) :
    FnOk P w K mg base CX0 3 f fd ["_law_pen_here", "_law_dials_here", "_law_at_here"] spSayW := by
  refine F.ok scSayL (fun vs H Q E h => ?_) (fun cdv A outer s H vs Q E hr h => ?_)
  · obtain ⟨p, c, t, d, X, n, wd, ds, es, rfl, _⟩ := h
    rfl
  obtain ⟨p, c, t, d, X, n, wd, ds, es, rfl, wd1, wd2, pen, al, hn, da, ad, k⟩ := h
  have hu := hu_of hr
  have hr1 : Room 1 _ := hr.mono (by decide)
  refine ⟨_, pss_cons (ps_asg (pe_call G2 hr rfl mG2 kG2 bG2 .nil pass0 (pa_cons (pv 0) (pa_cons (pv 1) pa_nil))) (pg_tup (by rfl) (pgs_cons (pg_name (i := 3) scSayL.nd rfl (.inl rfl)) <| pgs_cons (pg_name (i := 4) scSayL.nd rfl (.inl rfl)) <| pgs_cons (pg_name (i := 5) scSayL.nd rfl (.inl rfl)) <| pgs_cons (pg_name (i := 6) scSayL.nd rfl (.inl rfl)) <| pgs_cons (pg_name (i := 7) scSayL.nd rfl (.inl rfl)) <| pgs_cons (pg_name (i := 8) scSayL.nd rfl (.inl rfl)) pgs_nil))) <|
    pss_cons (ps_set (i := 9) scSayL.nd rfl (.inl rfl) (pe_op op_mul (pe_call G2 hr rfl mG2 kG2 bG2 .nil pass0 (pa_cons (pv 0) (pa_cons (pe_lst (pa_cons pe_int <| pa_cons pe_int <| pa_cons pe_int <| pa_cons pe_int <| pa_cons (pe_op op_sub (pv 5) (pv 4)) <| pa_cons (pe_call G hr1 rfl mG kG bG .nil pass0 (pa_cons (pv 0) (pa_cons (pe_op op_add (pe_op op_sub (pv 5) (pv 4)) pe_int) pa_nil))) pa_nil)) pa_nil)))
      (pe_call G2 hr rfl mG2 kG2 bG2 .nil pass0 (pa_cons (pv 0) (pa_cons (pe_lst (pa_cons pe_int <| pa_cons (pe_op op_sub pe_int pe_int) pa_nil)) pa_nil))))) <|
    pss_one (ps_ret (pe_tup (pa_cons (pv 3) <| pa_cons (pe_call G2 hr rfl mG2 kG2 bG2 .nil pass0 (pa_cons (pv 0) (pa_cons (pe_lst (pa_cons pe_str <| pa_cons pe_str pa_nil)) pa_nil))) <| pa_cons (pe_op op_add (pe_dget hu (pv 2) (pv 3) (fun _ _ => rfl)) (pv 9)) pa_nil))), ?_⟩
  obtain ⟨xs, ht, tX, alA⟩ := da.un
  have tp : t ≠ p := fun z => tX (by rw [z]; exact al.mem)
  have xl := alA.length
  have d1 := da.d1
  have d2 := da.d2
  have fg := farG
  refine ⟨_, rfl, _, rfl, .inl ⟨p, c, t, n, xs, rfl, pen, by omega, tp, .inr ht, by omega, by omega, fun x H1 hx pen1 sb1 => ?_⟩⟩
  obtain ⟨dd, hdd, tr⟩ := alA.mem hx
  have hdm := da.ok dd hdd
  obtain ⟨b, nm, way, lo, hi, up, dn, rfl, hb, q1, q2, q3, _, ed⟩ := dial_tup (tr.same (zn_sb sb1 al.mem)) hdm.1
  have hb := zn_le _ _ hb
  have hsp := span_is hdm.2 ed
  have hnm : nm ∈ ds.map nameOf := List.mem_map.mpr ⟨dd, hdd, by rw [ed]; rfl⟩
  refine ⟨b, _, rfl, SqT.of hb, rfl, _, _, rfl, _, _, rfl, _, _, rfl, _, _, rfl, _, _, rfl, _, _, rfl, rfl, ?_⟩
  refine ⟨_, rfl, _, rfl, _, rfl, _, _, rfl, rfl, _, rfl, _, rfl, _, rfl, _, _, rfl, rfl, _, _, rfl, rfl, p, c, _, _, rfl, pen1, by omega, by omega, by omega, fun w1 H4 a1 a2 pen4 sb4 => ?_⟩
  refine ⟨by show 6 ≤ sizeLine; decide, fun e he => ?_⟩
  refine .inl ⟨p, c, e, _, _, rfl, pen4.same (sameNew he _), by omega, pen4.newp he, .inl upd_same, by simp, by simp, fun x H5 hx pen5 sb5 => ?_⟩
  obtain ⟨v, rfl, v1, v2⟩ : ∃ v : Int, x = .int v ∧ 0 ≤ v ∧ v ≤ 1000000000000000000 := by
    simp only [List.mem_cons, List.not_mem_nil, or_false] at hx
    rcases hx with rfl | rfl | rfl | rfl | rfl | rfl <;> exact ⟨_, rfl, by omega, by omega⟩
  refine ⟨_, rfl, _, _, rfl, rfl, by show 2 ≤ sizeLine; decide, fun e2 he2 => ?_⟩
  refine .inl ⟨p, c, e2, _, _, rfl, pen5.same (sameNew he2 _), by omega, pen5.newp he2, .inl upd_same, by simp, by simp, fun x H6 hx pen6 sb6 => ?_⟩
  obtain ⟨u, rfl, u1⟩ : ∃ u : Int, x = .int u ∧ (u = 1 ∨ u = -1) := by
    simp only [List.mem_cons, List.not_mem_nil, or_false] at hx
    rcases hx with rfl | rfl
    · exact ⟨_, rfl, by omega⟩
    · exact ⟨_, rfl, by omega⟩
  refine ⟨_, _, rfl, rfl, mulL (by omega) (by omega), ?_⟩
  have hvu : -1000000000000000000 ≤ v * u ∧ v * u ≤ 1000000000000000000 := by
    rcases u1 with rfl | rfl <;> omega
  have sb6' : Sb p H H6 := sb1.trans (sb4.trans ((Sb.same (sameNew he _)).trans (sb5.trans ((Sb.same (sameNew he2 _)).trans sb6))))
  refine ⟨_, rfl, _, rfl, by show 2 ≤ sizeLine; decide, fun e3 he3 => ?_⟩
  refine .inl ⟨p, c, e3, _, _, rfl, pen6.same (sameNew he3 _), by omega, pen6.newp he3, .inl upd_same, by simp, by simp, fun x H7 hx pen7 sb7 => ?_⟩
  obtain ⟨so, hso, rfl⟩ := sorts_mem hx
  have sb7' : Sb p H H7 := sb6'.trans ((Sb.same (sameNew he3 _)).trans sb7)
  obtain ⟨dg, f1, f2⟩ := (ad.sb pen sb7').look hnm
  refine ⟨_, rfl, _, rfl, d, _, rfl, dg, _, rfl, _, _, rfl, rfl, by show 3 ≤ sizeLine; decide, fun s ns => ?_⟩
  have ss := sameNew ns (.tup [.str nm, .str so, .int (lookE es nm + v * u)])
  exact k s nm so _ _ ((pen7.same ss).mono (by omega)) (sb7'.trans (Sb.same ss)) upd_same ((al.sb sb7' pen7).out ns) hnm hso (by omega) (by omega)
theorem scLSaid : FnScope ["_law_saying_here", "_law_at_here", "_law_name", "_law_sort", "_law_number"] ["_law_saying_here", "_law_at_here"] (defScope sLSaid) := ⟨rfl, rfl, rfl, by decide +kernel, rfl, by decide +kernel, by decide +kernel⟩
theorem ok_lsaid {f : Addr} {fd : FuncData} (F : Fun K "_law_said" "_law_said" sLSaid f fd) : FnOk P w K mg base CX0 1 f fd ["_law_saying_here", "_law_at_here"] spHolds := by
  refine F.ok scLSaid (fun vs H Q E h => ?_) (fun cdv A outer s H vs Q E hr h => ?_)
  · obtain ⟨x, d, es, sd, rfl, _⟩ := h
    rfl
  obtain ⟨x, d, es, sd, rfl, t, hs, hd, k⟩ := h
  have hu := hu_of hr
  refine ⟨_, pss_cons (ps_asg (pv 0) (pg_tup (by rfl) (pgs_cons (pg_name (i := 2) scLSaid.nd rfl (.inl rfl)) <| pgs_cons (pg_name (i := 3) scLSaid.nd rfl (.inl rfl)) <| pgs_cons (pg_name (i := 4) scLSaid.nd rfl (.inl rfl)) pgs_nil))) <|
    pss_one (ps_ret (pe_ifExp (pt_cmpR op_eq (pv 3) pe_str (nomark _))
    (pe_cmpR op_ge (pe_dget hu (pv 1) (pv 2) (fun _ _ => rfl)) (pv 4) (nomark _))
    (pe_cmpR op_le (pe_dget hu (pv 1) (pv 2) (fun _ _ => rfl)) (pv 4) (nomark _)))), ?_⟩
  obtain ⟨z, so, i, rfl, hz, hso⟩ := say_is hs
  obtain ⟨p, u, v, y, rfl, hp, t1, t2, t3⟩ := tup3 t
  cases t1.strV
  cases t2.strV
  cases t3.intV
  have dg := look_dg hd hz
  have e : holdsS (lookE es) (.tuple [.str z, .str so, .int i]) = if decide (so = "least") = true then decide (i ≤ lookE es z) else decide (lookE es z ≤ i) := rfl
  rw [e] at k
  refine ⟨_, rfl, p, _, rfl, SqT.of hp, rfl, _, _, rfl, _, _, rfl, _, _, rfl, rfl, ?_⟩
  refine ⟨_, rfl, rfl, _, rfl, ?_⟩
  refine ite2 (fun c => ?_) (fun c => ?_)
  · have c' : decide (so = ("least" : Str)) = true := by simpa using c
    rw [if_pos c'] at k
    exact ⟨_, rfl, _, rfl, d, _, rfl, dg, _, rfl, _, _, rfl, rfl, k⟩
  · have c' : ¬ decide (so = ("least" : Str)) = true := by simpa using c
    rw [if_neg c'] at k
    exact ⟨_, rfl, _, rfl, d, _, rfl, dg, _, rfl, _, _, rfl, rfl, k⟩
end
end Pk
/-! The law's own: rule. -/
namespace Pk
open PySem L2
section
variable {P : Program} {w : World} {K : PySem.W.Frag} {mg : Str → Option Value} {base : Heap}
theorem other_ne {k v m : Int} (h0 : 0 ≤ k) (h1 : k < m) (v0 : 0 ≤ v) (v1 : v < m - 1) : 0 ≤ (k + 1 + v) % m ∧ (k + 1 + v) % m < m ∧ (k + 1 + v) % m ≠ k := by
  have m0 : 0 < m := by omega
  refine ⟨Int.emod_nonneg _ (by omega), Int.emod_lt_of_pos _ m0, fun e => ?_⟩
  by_cases c : k + 1 + v < m
  · rw [Int.emod_eq_of_lt (by omega) c] at e
    omega
  · have q : (k + 1 + v) % m = k + 1 + v - m := by
      rw [← Int.sub_emod_right, Int.emod_eq_of_lt (by omega) (by omega)]
    omega
theorem scLRule : FnScope nLRule ["_law_pen_here", "_law_dials_here", "_law_at_here"] (defScope sLRule) := ⟨rfl, rfl, rfl, by decide +kernel, rfl, by decide +kernel, by decide +kernel⟩
theorem nd_at {ds : List PyData} {i j : Nat} {a b : PyData} (h : (ds.map nameOf).Nodup) (hi : ds[i]? = some a) (hj : ds[j]? = some b) (ne : i ≠ j) : nameOf a ≠ nameOf b := fun e => by
  have h1 : (ds.map nameOf)[i]? = some (nameOf a) := by rw [List.getElem?_map, hi]; rfl
  have h2 : (ds.map nameOf)[j]? = some (nameOf a) := by rw [List.getElem?_map, hj, e]; rfl
  have l1 := (List.getElem?_eq_some_iff.mp h1).1
  exact ne ((List.getElem?_inj l1 h).mp (h1.trans h2.symm))
theorem words5 {x : V} (h : x ∈ [V.str "off", V.str "most", V.str "least", V.str "one", V.str "one"]) : ∃ so : Str, x = .str so ∧ (so = "one" ∨ so ∈ pairs3) := by
  simp only [List.mem_cons, List.not_mem_nil, or_false] at h
  rcases h with rfl | rfl | rfl | rfl | rfl
  · exact ⟨_, rfl, .inr (by decide +kernel)⟩
  · exact ⟨_, rfl, .inr (by decide +kernel)⟩
  · exact ⟨_, rfl, .inr (by decide +kernel)⟩
  · exact ⟨_, rfl, .inl rfl⟩
  · exact ⟨_, rfl, .inl rfl⟩
set_option maxHeartbeats 2000000 in
theorem ok_lrule {f g g2 g3 g4 : Addr} {fd gd gd2 gd3 gd4 : FuncData} (F : Fun K "_law_rule" "_law_rule" sLRule f fd) (G : FnOk P w K mg base CX0 1 g gd ["_law_pen_here", "_law_many"] spDrawC) (bG : Binds K gd ["_law_pen_here", "_law_many"] []) (kG : PySem.W.keepIn K (.ref g) = true) (mG : mg "_law_draw" = some (.ref g))
    (G2 : FnOk P w K mg base CX0 2 g2 gd2 ["_law_pen_here", "_law_lot"] spPick) (bG2 : Binds K gd2 ["_law_pen_here", "_law_lot"] []) (kG2 : PySem.W.keepIn K (.ref g2) = true) (mG2 : mg "_law_pick" = some (.ref g2))
    (G3 : FnOk P w K mg base CX0 3 g3 gd3 ["_law_pen_here", "_law_dials_here", "_law_at_here"] spSayW) (bG3 : Binds K gd3 ["_law_pen_here", "_law_dials_here", "_law_at_here"] []) (kG3 : PySem.W.keepIn K (.ref g3) = true) (mG3 : mg "_law_saying" = some (.ref g3))
    (G4 : FnOk P w K mg base CX0 1 g4 gd4 ["_law_saying_here", "_law_at_here"] spHolds) (bG4 : Binds K gd4 ["_law_saying_here", "_law_at_here"] []) (kG4 : PySem.W.keepIn K (.ref g4) = true) (mG4 : mg "_law_said" = some (.ref g4)) (B : Blt mg) :
    FnOk P w K mg base CX0 4 f fd ["_law_pen_here", "_law_dials_here", "_law_at_here"] spRuleW := by
  refine F.ok scLRule (fun vs H Q E h => ?_) (fun cdv A outer s H vs Q E hr h => ?_)
  · obtain ⟨p, c, t, d, X, n, wd, ds, es, rfl, _⟩ := h
    rfl
  obtain ⟨p, c, t, d, X, n, wd, ds, es, rfl, wd1, wd2, pen, al, hn, da, nd, ad, k⟩ := h
  have hu := hu_of hr
  have hr1 : Room 1 _ := hr.mono (by decide)
  have hr2 : Room 2 _ := hr.mono (by decide)
  refine ⟨_, pss_cons (ps_set (i := 3) scLRule.nd rfl (.inl rfl) (pe_call G2 hr2 rfl mG2 kG2 bG2 .nil pass0 (pa_cons (pv 0) (pa_cons (pe_lst (pa_cons pe_str <| pa_cons pe_str <| pa_cons pe_str <| pa_cons pe_str <| pa_cons pe_str pa_nil)) pa_nil)))) <|
    pss_cons (ps_if (PW.pt (pw_or (pt_cmpR op_eq (pv 3) pe_str (nomark _)) (pw_or1 (pt_cmpR op_lt (pe_callB call_len_seq (by rfl) B.len PySem.boot_len (pa_cons (pv 1) pa_nil)) pe_int (nomark _)))))
      (pss_cons (ps_par (i := 4) (j := 5) (by rfl) scLRule.nd rfl rfl (by decide) rfl rfl (pa_cons (pe_call G3 hr rfl mG3 kG3 bG3 .nil pass0 (pa_cons (pv 0) (pa_cons (pv 1) (pa_cons (pv 2) pa_nil)))) (pa_cons (pe_call G3 hr rfl mG3 kG3 bG3 .nil pass0 (pa_cons (pv 0) (pa_cons (pv 1) (pa_cons (pv 2) pa_nil)))) pa_nil)) (by rfl))
      (pss_cons (ps_if (PW.pt (pw_and (pt_not (pt_val (pe_call G4 hr1 rfl mG4 kG4 bG4 .nil pass0 (pa_cons (pv 4) (pa_cons (pv 2) pa_nil))))) (pw_and1 (pt_not (pt_val (pe_call G4 hr1 rfl mG4 kG4 bG4 .nil pass0 (pa_cons (pv 5) (pa_cons (pv 2) pa_nil))))))))
        (pss_one (ps_set (i := 4) scLRule.nd rfl (.inl rfl) (pe_tup (pa_cons (pe_ix ix_tup (pv 4) pe_int (fun _ _ => rfl)) (pa_cons (pe_ifExp (pt_cmpR op_eq (pe_ix ix_tup (pv 4) pe_int (fun _ _ => rfl)) pe_str (nomark _)) pe_str pe_str) (pa_cons (pe_ix ix_tup (pv 4) pe_int (fun _ _ => rfl)) pa_nil)))))) pss_nil)
      (pss_one (ps_ret (pe_tup (pa_cons pe_str (pa_cons (pv 4) (pa_cons (pv 5) pa_nil)))))))) pss_nil) <|
    pss_cons (ps_set (i := 6) scLRule.nd rfl (.inl rfl) (pe_call G hr1 rfl mG kG bG .nil pass0 (pa_cons (pv 0) (pa_cons (pe_callB call_len_seq (by rfl) B.len PySem.boot_len (pa_cons (pv 1) pa_nil)) pa_nil)))) <|
    pss_cons (ps_par (i := 7) (j := 8) (by rfl) scLRule.nd rfl rfl (by decide) rfl rfl (pa_cons (pe_ix ix_tup (pe_ix ix_tup (pv 1) (pv 6) (fun _ _ => rfl)) pe_int (fun _ _ => rfl)) (pa_cons (pe_ix ix_tup (pe_ix ix_tup (pv 1) (pe_op op_mod (pe_op op_add (pe_op op_add (pv 6) pe_int) (pe_call G hr1 rfl mG kG bG .nil pass0 (pa_cons (pv 0) (pa_cons (pe_op op_sub (pe_callB call_len_seq (by rfl) B.len PySem.boot_len (pa_cons (pv 1) pa_nil)) pe_int) pa_nil)))) (pe_callB call_len_seq (by rfl) B.len PySem.boot_len (pa_cons (pv 1) pa_nil))) (fun _ _ => rfl)) pe_int (fun _ _ => rfl)) pa_nil)) (by rfl)) <|
    pss_cons (ps_set (i := 9) scLRule.nd rfl (.inl rfl) (pe_call G2 hr2 rfl mG2 kG2 bG2 .nil pass0 (pa_cons (pv 0) (pa_cons (pe_lst (pa_cons pe_int <| pa_cons pe_int <| pa_cons pe_int <| pa_cons pe_int <| pa_cons pe_int <| pa_cons (pe_call G hr1 rfl mG kG bG .nil pass0 (pa_cons (pv 0) (pa_cons (pe_op op_add (pe_op op_sub (pe_ix ix_tup (pe_ix ix_tup (pv 1) (pv 6) (fun _ _ => rfl)) pe_int (fun _ _ => rfl)) (pe_ix ix_tup (pe_ix ix_tup (pv 1) (pv 6) (fun _ _ => rfl)) pe_int (fun _ _ => rfl))) pe_int) pa_nil))) pa_nil)) pa_nil)))) <|
    pss_cons (ps_if (pt_cmpR op_eq (pv 3) pe_str (nomark _)) (pss_one (ps_ret (pe_tup (pa_cons (pv 3) (pa_cons (pv 7) (pa_cons (pv 8) (pa_cons (pe_op op_add (pe_op op_sub (pe_dget hu (pv 2) (pv 7) (fun _ _ => rfl)) (pe_dget hu (pv 2) (pv 8) (fun _ _ => rfl))) (pv 9)) pa_nil))))))) pss_nil) <|
    pss_one (ps_ret (pe_tup (pa_cons (pv 3) (pa_cons (pv 7) (pa_cons (pv 8) (pa_cons (pe_op op_add (pe_op op_add (pe_dget hu (pv 2) (pv 7) (fun _ _ => rfl)) (pe_dget hu (pv 2) (pv 8) (fun _ _ => rfl))) (pe_op op_mul (pv 9) (pe_ifExp (pt_cmpR op_eq (pv 3) pe_str (nomark _)) pe_int (pe_op op_sub pe_int pe_int)))) pa_nil)))))), ?_⟩
  obtain ⟨xs, ht, tX, alA⟩ := da.un
  have tp : t ≠ p := fun z => tX (by rw [z]; exact al.mem)
  have xl := alA.length
  have d1 := da.d1
  have d2 := da.d2
  have fg := farG
  have gg := greatG
  have nmk : ∀ z ∈ ds.map nameOf, nmOk z := fun z hz => by
    obtain ⟨dd, hdd, rfl⟩ := List.mem_map.mp hz
    exact (dial_name_of (da.ok dd hdd).1).1
  refine ⟨_, rfl, by show 5 ≤ sizeLine; decide, fun e he => ?_⟩
  refine .inl ⟨p, c, e, _, _, rfl, pen.same (sameNew he _), by omega, pen.newp he, .inl upd_same, by simp, by simp, fun x H1 hx pen1 sb1' => ?_⟩
  obtain ⟨wo, rfl, hwo⟩ := words5 hx
  have sb1 : Sb p H H1 := (Sb.same (sameNew he _)).trans sb1'
  clear hx sb1' he
  have da1 := da.sb sb1 al.mem
  have ad1 := ad.sb pen sb1
  have al1 := al.sb sb1 pen1
  have ht1 := sb1.to tp ht
  -- either-ors
  refine ⟨_, rfl, rfl, _, rfl, ?_⟩
  have fin : ∀ (H9 : Hp) (a1 a2 : Addr) (z1 so1 z2 so2 : Str) (i1 i2 : Int), Sb p H H9 → PenC H9 p c (n + 20) → H9 a1 = some (.tup [.str z1, .str so1, .int i1]) → a1 ∉ X → z1 ∈ ds.map nameOf → so1 ∈ sorts2 → -(2 * farS) ≤ i1 → i1 ≤ 2 * farS → H9 a2 = some (.tup [.str z2, .str so2, .int i2]) → a2 ∉ X → z2 ∈ ds.map nameOf → so2 ∈ sorts2 → -(2 * farS) ≤ i2 → i2 ≤ 2 * farS → ∀ r, H9 r = none → Q (.ref r) (L2.upd H9 r (.tup [.str "one", .ref a1, .ref a2])) := by
    intro H9 a1 a2 z1 so1 z2 so2 i1 i2 sb9 pen9 h1 x1 m1 s1 b1 b2 h2 x2 m2 s2 b3 b4 r nr
    have sr := sameNew nr (.tup [.str "one", .ref a1, .ref a2])
    have rX := (al.sb sb9 pen9).out nr
    refine k r (.tuple [.str "one", .tuple [.str z1, .str so1, .int i1], .tuple [.str z2, .str so2, .int i2]]) _ ((pen9.same sr).mono (by omega)) (sb9.trans (Sb.same sr)) (.tup (by rw [zn_out rX, upd_same]) (.cons (.str _) (.cons (.tup (by rw [zn_out x1]; exact sr _ _ h1) (.cons (.str _) (.cons (.str _) (.cons (.int _) .nil)))) (.cons (.tup (by rw [zn_out x2]; exact sr _ _ h2) (.cons (.str _) (.cons (.str _) (.cons (.int _) .nil)))) .nil)))) ?_ ?_
    · exact rule_one (say_g m1 (nmk _ m1) s1 (by omega) (by omega)) (say_g m2 (nmk _ m2) s2 (by omega) (by omega))
    · exact fun _ _ _ _ z => by simp at z
  refine ite2 (fun c1 => ?_) (fun c1 => ?_)
  rotate_left
  refine ⟨_, rfl, t, _, rfl, .inr (SqT.of ht1), _, _, rfl, rfl, _, rfl, ?_⟩
  refine ite2 (fun c2 => ?_) (fun c2 => ?_)
  rotate_left
  · -- rules of two dials
    have hw3 : wo ∈ pairs3 := by
      rcases hwo with rfl | h
      · simp at c1
      · exact h
    have l2 : 2 ≤ xs.length := by
      have := c2
      simp only [decide_eq_true_eq] at this
      omega
    refine ⟨_, rfl, _, rfl, t, _, rfl, .inr (SqT.of ht1), p, c, _, _, rfl, pen1, by omega, by omega, by omega, fun kk H2 a1 a2 pen2 sb2 => ?_⟩
    have ht2 := sb2.to tp ht1
    have da2 := da1.sb sb2 al.mem
    have ek : kk = ((kk.toNat : Nat) : Int) := by omega
    have hkx : xs[kk.toNat]? = some xs[kk.toNat] := List.getElem?_eq_getElem (by omega)
    obtain ⟨dk, hdk, trk⟩ := alA.get hkx
    have hdm := da.ok dk (List.mem_of_getElem? hdk)
    obtain ⟨bk, nmk', wayk, lok, hik, upk, dnk, ebk, hbk, q1, q2, q3, _, edk⟩ := dial_tup (trk.same (zn_sb (sb1.trans sb2) al.mem)) hdm.1
    have hbk0 := zn_some hbk
    have bkp : bk ≠ p := fun z => hbk0.1 (by rw [z]; exact al.mem)
    have hsp := span_is hdm.2 edk
    have hnk : nmk' ∈ ds.map nameOf := List.mem_map.mpr ⟨dk, List.mem_of_getElem? hdk, by rw [edk]; rfl⟩
    have ixk : atI xs kk = some (.ref bk) := by
      rw [ek, ← ebk]
      exact atI_nat hkx
    refine ⟨_, rfl, _, rfl, t, _, _, _, rfl, rfl, SqT.of ht2, ixk, bk, _, _, _, rfl, rfl, SqT.of hbk0.2, (rfl : atI [V.str nmk', V.int lok, V.int hik, V.str wayk, V.int upk, V.int dnk] 0 = some (.str nmk')), ?_⟩
    refine ⟨_, rfl, _, rfl, _, _, rfl, rfl, _, rfl, _, rfl, t, _, rfl, .inr (SqT.of ht2), _, _, rfl, rfl, p, c, _, _, rfl, pen2, by omega, by omega, by omega, fun v H3 a3 a4 pen3 sb3 => ?_⟩
    have ht3 := sb3.to tp ht2
    obtain ⟨o0, o1, o2⟩ := other_ne a1 a2 a3 a4
    generalize hoj : (kk + 1 + v) % ((xs.length : Nat) : Int) = oj at o0 o1 o2
    have eo : oj = ((oj.toNat : Nat) : Int) := by omega
    have hox : xs[oj.toNat]? = some xs[oj.toNat] := List.getElem?_eq_getElem (by omega)
    obtain ⟨dj, hdj, trj⟩ := alA.get hox
    obtain ⟨bj, nmj, wayj, loj, hij, upj, dnj, ebj, hbj, _, _, _, _, edj⟩ := dial_tup (trj.same (zn_sb (sb1.trans (sb2.trans sb3)) al.mem)) (da.ok dj (List.mem_of_getElem? hdj)).1
    have hbj0 := zn_some hbj
    have hnj : nmj ∈ ds.map nameOf := List.mem_map.mpr ⟨dj, List.mem_of_getElem? hdj, by rw [edj]; rfl⟩
    have ixj : atI xs oj = some (.ref bj) := by
      rw [eo, ← ebj]
      exact atI_nat hox
    have ne : nmk' ≠ nmj := by
      have q := nd_at nd hdk hdj (fun z => o2 (by omega))
      rw [edk, edj] at q
      exact q
    refine ⟨_, _, rfl, rfl, _, rfl, t, _, rfl, .inr (SqT.of ht3), _, _, rfl, rfl, (by show (0 : Int) < ((xs.length : Nat) : Int); omega), t, _, _, _, rfl, rfl, SqT.of ht3, (by rw [hoj]; exact ixj), bj, _, _, _, rfl, rfl, SqT.of hbj0.2, (rfl : atI [V.str nmj, V.int loj, V.int hij, V.str wayj, V.int upj, V.int dnj] 0 = some (.str nmj)), ?_⟩
    refine ⟨_, _, rfl, ?_⟩
    have hbk3 := sb3.to bkp hbk0.2
    -- slack
    refine ⟨_, rfl, _, rfl, _, rfl, _, rfl, t, _, _, _, rfl, rfl, SqT.of ht3, ixk, bk, _, _, _, rfl, rfl, SqT.of hbk3, (rfl : atI [V.str nmk', V.int lok, V.int hik, V.str wayk, V.int upk, V.int dnk] 2 = some (.int hik)), _, rfl, _, rfl, t, _, _, _, rfl, rfl, SqT.of ht3, ixk, bk, _, _, _, rfl, rfl, SqT.of hbk3, (rfl : atI [V.str nmk', V.int lok, V.int hik, V.str wayk, V.int upk, V.int dnk] 1 = some (.int lok)), _, _, rfl, rfl, _, _, rfl, rfl, p, c, _, _, rfl, pen3, by omega, by omega, by omega, fun w1 H4 a5 a6 pen4 sb4 => ?_⟩
    refine ⟨by show 6 ≤ sizeLine; decide, fun e he => ?_⟩
    refine .inl ⟨p, c, e, _, _, rfl, pen4.same (sameNew he _), by omega, pen4.newp he, .inl upd_same, by simp, by simp, fun x H5 hx pen5 sb5 => ?_⟩
    obtain ⟨sl, rfl, sl1, sl2⟩ : ∃ sl : Int, x = .int sl ∧ 0 ≤ sl ∧ sl ≤ 1000000000000000000 := by
      simp only [List.mem_cons, List.not_mem_nil, or_false] at hx
      rcases hx with rfl | rfl | rfl | rfl | rfl | rfl <;> exact ⟨_, rfl, by omega, by omega⟩
    have sb5' : Sb p H H5 := sb1.trans (sb2.trans (sb3.trans (sb4.trans ((Sb.same (sameNew he _)).trans sb5))))
    have ad5 := ad.sb pen sb5'
    obtain ⟨dg1, f1, f2⟩ := ad5.look hnk
    obtain ⟨dg2, f3, f4⟩ := ad5.look hnj
    have al5 := al.sb sb5' pen5
    have fin2 : ∀ (i : Int), -(4 * farS) ≤ i → i ≤ 4 * farS → ∀ r, H5 r = none → Q (.ref r) (L2.upd H5 r (.tup [.str wo, .str nmk', .str nmj, .int i])) := by
      intro i b1 b2 r nr
      have sr := sameNew nr (.tup [.str wo, .str nmk', .str nmj, .int i])
      have rX := al5.out nr
      exact k r (.tuple [.str wo, .str nmk', .str nmj, .int i]) _ ((pen5.same sr).mono (by omega)) (sb5'.trans (Sb.same sr)) (.tup (by rw [zn_out rX, upd_same]) (.cons (.str _) (.cons (.str _) (.cons (.str _) (.cons (.int _) .nil))))) (rule_pair hw3 hnk hnj ne (nmk _ hnk) (nmk _ hnj) (by omega) (by omega)) (fun _ _ _ _ z => by cases z; exact ⟨b1, b2⟩)
    refine ⟨_, rfl, rfl, _, rfl, ?_⟩
    refine ite2 (fun c3 => ?_) (fun c3 => ?_)
    · exact ⟨_, rfl, _, rfl, _, rfl, _, rfl, _, rfl, d, _, rfl, dg1, _, rfl, _, rfl, d, _, rfl, dg2, _, _, rfl, rfl, _, rfl, _, _, rfl, rfl, by show 4 ≤ sizeLine; decide, fin2 _ (by omega) (by omega)⟩
    · refine ⟨_, rfl, _, rfl, _, rfl, _, rfl, _, rfl, d, _, rfl, dg1, _, rfl, _, rfl, d, _, rfl, dg2, _, _, rfl, rfl, _, rfl, _, rfl, rfl, _, rfl, ?_⟩
      refine ite2 (fun c4 => ?_) (fun c4 => ?_)
      · exact ⟨_, _, rfl, rfl, mulR (by decide) (by decide), _, _, rfl, rfl, by show 4 ≤ sizeLine; decide, fin2 _ (by omega) (by omega)⟩
      · exact ⟨_, _, rfl, rfl, _, _, rfl, rfl, mulR (by decide) (by decide), _, _, rfl, rfl, by show 4 ≤ sizeLine; decide, fin2 _ (by omega) (by omega)⟩
  all_goals
    refine ⟨_, rfl, _, rfl, _, rfl, p, c, t, d, X, _, wd, ds, es, rfl, wd1, wd2, pen1, al1, by omega, da1, ad1, fun s1 z1 so1 i1 H2 pen2 sb2 hs1 x1 m1 so1' b1 b2 => ?_⟩
    have s1p : s1 ≠ p := fun z => x1 (by rw [z]; exact al.mem)
    have al2 := al1.sb sb2 pen2
    refine ⟨_, rfl, _, rfl, _, rfl, p, c, t, d, X, _, wd, ds, es, rfl, wd1, wd2, pen2, al2, by omega, da1.sb sb2 al.mem, ad1.sb pen1 sb2, fun s2 z2 so2 i2 H3 pen3 sb3 hs2 x2 m2 so2' b3 b4 => ?_⟩
    have hs1' := sb3.to s1p hs1
    have ad3 := (ad1.sb pen1 sb2).sb pen2 sb3
    have sb3' : Sb p H H3 := sb1.trans (sb2.trans sb3)
    refine ⟨_, _, rfl, ?_⟩
    have g1 : sayingD (es.map (·.1)) (.tuple [.str z1, .str so1, .int i1]) = true := by rw [ad.keys]; exact say_of m1 so1' (by omega) (by omega)
    have g2 : sayingD (es.map (·.1)) (.tuple [.str z2, .str so2, .int i2]) = true := by rw [ad.keys]; exact say_of m2 so2' (by omega) (by omega)
    refine ⟨_, rfl, _, rfl, .ref s1, d, es, _, rfl, .tup hs1' (.cons (.str _) (.cons (.str _) (.cons (.int _) .nil))), g1, ad3.at_, _, rfl, ?_⟩
    refine ite2 (fun c5 => ?_) (fun c5 => ?_)
    · refine ⟨_, rfl, _, rfl, .ref s2, d, es, _, rfl, .tup hs2 (.cons (.str _) (.cons (.str _) (.cons (.int _) .nil))), g2, ad3.at_, _, rfl, ?_⟩
      refine ite2 (fun c6 => ?_) (fun c6 => ?_)
      · have j0 : atI [V.str z1, V.str so1, V.int i1] 0 = some (.str z1) := rfl
        have j1 : atI [V.str z1, V.str so1, V.int i1] 1 = some (.str so1) := rfl
        have j2 : atI [V.str z1, V.str so1, V.int i1] 2 = some (.int i1) := rfl
        refine ⟨_, rfl, s1, _, _, _, rfl, rfl, SqT.of hs1', j0, _, rfl, s1, _, _, _, rfl, rfl, SqT.of hs1', j1, rfl, _, rfl, ?_⟩
        have s2p : s2 ≠ p := fun z => x2 (by rw [z]; exact al.mem)
        refine ite2 (fun c7 => ?_) (fun c7 => ?_)
        · refine ⟨_, rfl, s1, _, _, _, rfl, rfl, SqT.of hs1', j2, by show 3 ≤ sizeLine; decide, fun s3 ns3 => ?_⟩
          have st := sameNew ns3 (.tup [.str z1, .str "least", .int i1])
          refine ⟨_, rfl, _, rfl, by show 3 ≤ sizeLine; decide, fin _ s3 s2 z1 "least" z2 so2 i1 i2 (sb3'.trans (Sb.same st)) ((pen3.same st).mono (by omega)) upd_same ((al2.sb sb3 pen3).out ns3) m1 (by decide +kernel) b1 b2 (st _ _ hs2) x2 m2 so2' b3 b4⟩
        · refine ⟨_, rfl, s1, _, _, _, rfl, rfl, SqT.of hs1', j2, by show 3 ≤ sizeLine; decide, fun s3 ns3 => ?_⟩
          have st := sameNew ns3 (.tup [.str z1, .str "most", .int i1])
          refine ⟨_, rfl, _, rfl, by show 3 ≤ sizeLine; decide, fin _ s3 s2 z1 "most" z2 so2 i1 i2 (sb3'.trans (Sb.same st)) ((pen3.same st).mono (by omega)) upd_same ((al2.sb sb3 pen3).out ns3) m1 (by decide +kernel) b1 b2 (st _ _ hs2) x2 m2 so2' b3 b4⟩
      · exact ⟨_, rfl, _, rfl, by show 3 ≤ sizeLine; decide, fin _ s1 s2 z1 so1 z2 so2 i1 i2 sb3' (pen3.mono (by omega)) hs1' x1 m1 so1' b1 b2 hs2 x2 m2 so2' b3 b4⟩
    · exact ⟨_, rfl, _, rfl, by show 3 ≤ sizeLine; decide, fin _ s1 s2 z1 so1 z2 so2 i1 i2 sb3' (pen3.mono (by omega)) hs1' x1 m1 so1' b1 b2 hs2 x2 m2 so2' b3 b4⟩
end
end Pk
/-! The law's own: house. -/
namespace Pk
open PySem L2
def spHouseW : Sp := fun vs H Q _ => ∃ (p c : Addr) (X : List Addr) (n wd rl : Int) (m : Nat), vs = [.ref p, .int (m : Nat), .int wd, .int rl] ∧ 0 ≤ wd ∧ wd ≤ 1000000000000000000 ∧ PenC H p c n ∧ Al p X H ∧ n ≤ 100000000 ∧ 1 ≤ m ∧ m ≤ 12 ∧ 0 ≤ rl ∧ rl ≤ 40 ∧
  ∀ (t h y : Addr) (ds rs : List PyData) (is : List Int) (H' : Hp), PenC H' p c (n + 3000) → Sb p H H' → H' t = some (.tup [.ref h, .ref y]) → t ≠ p → Tr (zn X H') (.ref h) (.tuple [.tuple ds, .tuple rs]) → H' y = some (.tup (is.map V.int)) → y ∉ X → is.length = ds.length → (∀ j ∈ is, -farS ≤ j ∧ j ≤ farS) → HouseG ds rs → (∀ d ∈ ds, spanLe wd d) → (∀ p ∈ ds.zip is, inSpan p.1 p.2) → ds.length ≤ m → (∀ r ∈ rs, SmallR r) → ((rs.length : Nat) : Int) ≤ rl → Q (.ref t) H'
abbrev nHouseW : List Str := ["_law_pen_here", "_law_many", "_law_wide", "_law_rules", "_law_dials_here", "_law_numbers_here", "_law_at_here", "_law_found", "_law_k", "_law_rule_here"]
section
variable {P : Program} {w : World} {K : PySem.W.Frag} {mg : Str → Option Value} {base : Heap}
theorem scHouseW : FnScope nHouseW ["_law_pen_here", "_law_many", "_law_wide", "_law_rules"] (defScope sHouseL) := ⟨rfl, rfl, rfl, by decide +kernel, rfl, by decide +kernel, by decide +kernel⟩
set_option maxHeartbeats 2000000 in
theorem ok_houseW {f g3 g4 g6 : Addr} {fd gd3 gd4 gd6 : FuncData} (F : Fun K "_law_house" "_law_house" sHouseL f fd)
    (G3 : FnOk P w K mg base CX0 4 g3 gd3 ["_law_pen_here", "_law_many", "_law_wide"] spDials) (bG3 : Binds K gd3 ["_law_pen_here", "_law_many", "_law_wide"] []) (kG3 : PySem.W.keepIn K (.ref g3) = true) (mG3 : mg "_law_dials" = some (.ref g3))
    (G4 : FnOk P w K mg base CX0 3 g4 gd4 ["_law_pen_here", "_law_dials_here"] spLNums) (bG4 : Binds K gd4 ["_law_pen_here", "_law_dials_here"] []) (kG4 : PySem.W.keepIn K (.ref g4) = true) (mG4 : mg "_law_numbers" = some (.ref g4))
    (G6 : FnOk P w K mg base CX0 4 g6 gd6 ["_law_pen_here", "_law_dials_here", "_law_at_here"] spRuleW) (bG6 : Binds K gd6 ["_law_pen_here", "_law_dials_here", "_law_at_here"] []) (kG6 : PySem.W.keepIn K (.ref g6) = true) (mG6 : mg "_law_rule" = some (.ref g6)) (B : Blt mg) :
    FnOk P w K mg base CX0 5 f fd ["_law_pen_here", "_law_many", "_law_wide", "_law_rules"] spHouseW := by
  refine F.ok scHouseW (fun vs H Q E h => ?_) (fun cdv A outer s H vs Q E hr h => ?_)
  · obtain ⟨p, c, X, n, wd, rl, m, rfl, _⟩ := h
    rfl
  obtain ⟨p, c, X, n, wd, rl, m, rfl, wd1, wd2, pen, al, hn, m1, m2, r1, r2, k⟩ := h
  have hu65 : (A.deeper (PyProof.Rows.envOfC "_law_house" (defScope sHouseL) s.heap.objs.size f cdv)).units + 65 < cLine := by
    have := hr.un
    omega
  have hr3 : Room 3 _ := hr.mono (by decide)
  refine ⟨_, pss_cons (ps_set (i := 4) scHouseW.nd rfl (.inr rfl) (pe_call G3 hr rfl mG3 kG3 bG3 .nil pass0 (pa_cons (pv 0) (pa_cons (pv 1) (pa_cons (pv 2) pa_nil))))) <|
    pss_cons (ps_set (i := 5) scHouseW.nd rfl (.inr rfl) (pe_call G4 hr3 rfl mG4 kG4 bG4 .nil pass0 (pa_cons (pv 0) (pa_cons (pv 4) pa_nil)))) <|
    pss_cons (ps_par (i := 6) (j := 7) (by rfl) scHouseW.nd rfl rfl (by decide) rfl rfl (pa_cons (pe_callTy (call_dictP rfl) (by rfl) B.dict (by decide +kernel) (pa_cons (pe_lc (own := [("_law_k", 8)]) (g := gName 8) (by rfl) scHouseW.nd (pi_range1 (by rfl) B.range (pa_cons (pe_callB call_len_seq (by rfl) B.len PySem.boot_len (pa_cons (pv 4) pa_nil)) pa_nil)) (blkOk_by (N := nHouseW) (sc := defScope sHouseL) (by decide +kernel)) (fun _ _ _ _ _ => pg_name (i := 8) scHouseW.nd rfl (Or.inl rfl)) (fun _ _ _ _ _ => pts_nil) (fun _ _ _ _ _ => pe_tup (pa_cons (pe_ix (r := rIxT K) ix_tup (pe_ix (r := rIxT K) ix_tup (pv 4) (pv 8) (fun _ _ => rfl)) pe_int (fun _ _ => rfl)) (pa_cons (pe_ix (r := rIxT K) ix_tup (pv 5) (pv 8) (fun _ _ => rfl)) pa_nil)))) pa_nil)) (pa_cons (pe_lst pa_nil) pa_nil)) (by rfl)) <|
    pss_cons (ps_for PassesOwn.never rfl (pi_range1 rfl B.range (pa_cons (pv 3) pa_nil)) (pg_name (i := 8) scHouseW.nd rfl (.inl rfl))
      (pss_cons (ps_set (i := 9) scHouseW.nd rfl (.inl rfl) (pe_call G6 hr rfl mG6 kG6 bG6 .nil pass0 (pa_cons (pv 0) (pa_cons (pv 4) (pa_cons (pv 6) pa_nil)))))
      (pss_one (ps_if (pt_cmpR (op_notInD hu65) (pv 9) (pv 7) (by rfl)) (pss_one (ps_expr (pe_bm PySem.F.plainAttrs_list PySem.F.slot_list_append PySem.F.type_list_append mt_append (pv 7) (pa_cons (pv 9) pa_nil)))) pss_nil)))) <|
    pss_one (ps_ret (pe_tup (pa_cons (pe_tup (pa_cons (pv 4) (pa_cons (pe_callTy call_tuple_of (by rfl) B.tuple (by decide +kernel) (pa_cons (pv 7) pa_nil)) pa_nil))) (pa_cons (pv 5) pa_nil)))), ?_⟩
  have fg := farG
  refine ⟨_, rfl, _, rfl, _, rfl, p, c, X, n, wd, m, rfl, wd1, wd2, pen, al, by omega, m1, m2, fun dt ds H1 pen1 sb1 tr1 dl1 dl2 dok nd srt => ?_⟩
  have al1 := al.sb sb1 pen1
  have da1 : DialsAt X H1 dt wd ds := ⟨tr1, dl1, by omega, dok⟩
  refine ⟨_, rfl, _, rfl, p, c, dt, X, _, wd, ds, rfl, wd1, wd2, pen1, al1, by omega, da1, fun y is H2 pen2 sb2 hy yX il ib isp => ?_⟩
  have al2 := al1.sb sb2 pen2
  have da2 := da1.sb sb2 al.mem
  obtain ⟨xs, hdt, dtX, alA⟩ := da2.un
  have dtp : dt ≠ p := fun z => dtX (by rw [z]; exact al.mem)
  have yp : y ≠ p := fun z => yX (by rw [z]; exact al.mem)
  have xl := alA.length
  have sb2' := sb1.trans sb2
  -- the numbers by names
  refine ⟨_, rfl, dt, _, rfl, .inr (SqT.of hdt), _, rfl, by omega, by omega, fun D3 hD3 => ?_⟩
  rw [Int.toNat_natCast]
  refine lc_range (lo := 0) (n := xs.length) (fun i H5 => ∃ (ps : List Addr) (es : List (Str × Int)), H5 D3 = some (.lst (ps.map V.ref)) ∧ Paired (fun q e => H5 q = some (.tup [.str e.1, .int e.2])) ps es ∧ es.length = i ∧ (∀ e ∈ es, -farS ≤ e.2 ∧ e.2 ≤ farS) ∧ es.map (·.1) = (ds.map nameOf).take i ∧ Same H2 H5)
    ⟨[], [], upd_same, .nil, rfl, fun _ h => absurd h (by simp), rfl, sameNew hD3 _⟩ ?_ ?_
  · rintro i H5 hi ⟨ps, es, g1, g2, g3, g4, g4n, s5⟩
    rw [Int.zero_add]
    have hx : xs[i]? = some xs[i] := List.getElem?_eq_getElem (by omega)
    have hj : is[i]? = some is[i] := List.getElem?_eq_getElem (by omega)
    obtain ⟨d, hd, trd⟩ := alA.get hx
    obtain ⟨b, nm, way, lo, hi', up, dn, eb, hb, _, _, _, _, ed⟩ := dial_tup (trd.same zn_le) (dok d (List.mem_of_getElem? hd)).1
    have ixd : atI xs ((i : Nat) : Int) = some (.ref b) := by rw [← eb]; exact atI_nat hx
    have hz : (ds.map nameOf)[i]? = some nm := by rw [List.getElem?_map, hd, ed]; rfl
    have pl := g2.length
    refine ⟨rfl, _, rfl, _, rfl, dt, _, _, _, rfl, rfl, SqT.of (s5 _ _ hdt), ixd, b, _, _, _, rfl, rfl, SqT.of (s5 _ _ hb), (rfl : atI [V.str nm, V.int lo, V.int hi', V.str way, V.int up, V.int dn] 0 = some (.str nm)), _, rfl, _, rfl, y, _, _, _, rfl, rfl, SqT.of (s5 _ _ hy), atInt hj, by show 2 ≤ sizeLine; decide, fun t ht => ?_⟩
    have st := sameNew ht (.tup [.str nm, .int is[i]])
    have tD : t ≠ D3 := fun z => by rw [z, g1] at ht; cases ht
    refine ⟨_, st _ _ g1, small1000 (by rw [List.length_map]; omega), ps ++ [t], es ++ [(nm, is[i])], by rw [upd_same, List.map_append]; rfl, .snoc (L2.Paired.mapP g2 fun q e h => ?_) ?_, by simp [g3], fun e he => ?_, by rw [List.map_append, g4n, take_more hz]; rfl, fun b o e => ?_⟩
    · have qD : q ≠ D3 := ne_of h g1 (by intro z; cases z)
      rw [upd_ne qD]
      exact st _ _ h
    · rw [upd_ne tD, upd_same]
    · rcases List.mem_append.mp he with he | he
      · exact g4 e he
      · rw [List.mem_singleton.mp he]
        exact ib _ (List.mem_of_getElem? hj)
    · rw [upd_ne (ne_of_none e hD3)]
      exact st _ _ (s5 _ _ e)
  rintro H5 ⟨ps, es, g1, g2, g3, g4, g4n, s5⟩
  refine ⟨D3, ps, es.map kvOf, rfl, SqL.of g1, pairedMap g2 fun q e h => SqT.of h, fun dd ndd => ?_⟩
  have eks : es.map (·.1) = ds.map nameOf := by rw [g4n, List.take_of_length_le (by rw [List.length_map]; omega)]
  have em : mergeK [] (es.map kvOf) = es.map kvOf := merge_nd es [] (by rw [List.nil_append, eks]; exact nd)
  rw [em]
  have sd := s5.trans (sameNew ndd (.dK (es.map kvOf)))
  refine ⟨by show 0 ≤ sizeLine; decide, fun L nL => ?_⟩
  have sL := sd.trans (sameNew nL (.lst []))
  have ad6 : AtD (L2.upd (L2.upd H5 dd (.dK (es.map kvOf))) L (.lst [])) dd ds es := ⟨sameNew nL (.lst []) _ _ upd_same, eks, g4⟩
  have pen6 := pen2.same sL
  have hL6 : L2.upd (L2.upd H5 dd (.dK (es.map kvOf))) L (.lst []) L = some (.lst []) := upd_same
  have nL2 : H2 L = none := sd.free nL
  have Lp := pen2.newp nL2
  have Lc := pen2.newc nL2
  have nLH : H L = none := sb2'.free Lp nL2
  have al6 := al2.same sL
  have da6 : DialsAt (L :: X) _ dt wd ds := ⟨da2.tr.same ((zn_fresh nL2).trans (zn_mono sL)), da2.d1, da2.d2, da2.ok⟩
  have sb6 := sb2'.trans (Sb.same sL)
  have hy6 := sL _ _ hy
  have hdt6 := sL _ _ hdt
  generalize L2.upd (L2.upd H5 dd (.dK (es.map kvOf))) L (.lst []) = H6 at pen6 hL6 al6 da6 sb6 hy6 ad6 hdt6
  clear sL sd s5 g1 g2 g4 g4n ndd nL nL2 em hD3
  have dtL : dt ≠ L := ne_of hdt6 hL6 (by intro z; cases z)
  have yL : y ≠ L := ne_of hy6 hL6 (by intro z; cases z)
  have ddL : dd ≠ L := ne_of ad6.at_ hL6 (by intro z; cases z)
  have ddp : dd ≠ p := ad6.ne pen6
  refine ⟨_, _, rfl, ?_⟩
  -- the rules
  refine ⟨_, rfl, _, rfl, by omega, by omega, ?_⟩
  refine for_range (n := rl.toNat) (fun i σ H8 => ∃ (v8 v9 : Option V) (ys : List V) (rs : List PyData), σ = [some (.ref p), some (.int (m : Nat)), some (.int wd), some (.int rl), some (.ref dt), some (.ref y), some (.ref dd), some (.ref L), v8, v9] ∧ H8 L = some (.lst ys) ∧ TrAll (zn (L :: X) H8) ys rs ∧ rs.length ≤ i ∧ (∀ r ∈ rs, RuleG (ds.map nameOf) r ∧ SmallR r) ∧ fRule (ds.map nameOf) 0 [] rs = none ∧ PenC H8 p c (n + 230 + 30 * i) ∧ ∀ b o, b ≠ p → b ≠ L → H6 b = some o → H8 b = some o)
    ⟨none, none, [], [], rfl, hL6, .nil, Nat.le_refl _, fun _ h => absurd h (by simp), rfl, pen6.mono (by omega), fun _ _ _ _ e => e⟩ ?_ ?_
  · rintro i σ H8 hi ⟨v8, v9, ys, rs, rfl, e1, f2', e3, e5, e6', pen8, fr⟩
    have al8 : Al p (L :: X) H8 := ⟨List.mem_cons_of_mem _ al.mem, fun b hb => by
      by_cases bp : b = p
      · rw [bp]
        obtain ⟨kv, h⟩ := pen8.atp
        exact ⟨_, h⟩
      · by_cases bL : b = L
        · rw [bL]
          exact ⟨_, e1⟩
        · obtain ⟨o, ho⟩ := al6.alc b ((List.mem_cons.mp hb).resolve_left bL)
          exact ⟨o, fr b o bp bL ho⟩⟩
    have zz : Same (zn (L :: X) H6) (zn (L :: X) H8) := fun b o e => by
      obtain ⟨h1, h2⟩ := zn_some e
      rw [zn_out h1]
      exact fr b o (fun z => h1 (by rw [z]; exact List.mem_cons_of_mem _ al.mem)) (fun z => h1 (by rw [z]; exact List.mem_cons_self)) h2
    refine ⟨_, rfl, _, rfl, _, rfl, p, c, dt, dd, L :: X, _, wd, ds, es, rfl, wd1, wd2, pen8, al8, by omega, da6.same zz, nd, ad6.to (fr _ _ ddp ddL ad6.at_), fun t r H10 pen10 sbA tr rg sr => ?_⟩
    have hL10 := sbA.to Lp e1
    have f3' := f2'.same (zn_sb sbA al8.mem)
    have rl' := f3'.length
    have fr10 : ∀ b o, b ≠ p → b ≠ L → H6 b = some o → H10 b = some o := fun b o h1 h2 e => sbA.to h1 (fr b o h1 h2 e)
    have wl : (PyData.list rs).canLay0 = true := by simpa only [PyData.canLay0] using lay_all fun d hd => (e5 d hd).1.lay
    refine ⟨_, rfl, _, rfl, r, rs, (tr.same zn_le).dp (noDict_of rg.lay), Tr.dp (.lst hL10 (f3'.same zn_le)) (noDict_of wl), shaped_of rg.lay (by have := rg.depth; omega), shaped_of wl (by
      have := depth_all (n := 2) fun d hd => (e5 d hd).1.depth
      simp only [PyData.depth]
      omega), _, rfl, ?_⟩
    refine ite2 (fun c7 => ?_) (fun _ => ?_)
    · refine ⟨_, rfl, .inl ⟨rfl, _, SqL.of hL10⟩, _, rfl, L, _, _, rfl, rfl, hL10, small1000 (by omega), ?_⟩
      refine ⟨_, _, ys ++ [.ref t], rs ++ [r], rfl, upd_same, (f3'.snoc tr).same (zn_upd List.mem_cons_self), by simp; omega, fun d hd => ?_, fr_snoc rg.rule e6' (by simpa using c7), (pen10.upd Lp Lc _).mono (by omega), fun b o h1 h2 e => by rw [upd_ne h2]; exact fr10 b o h1 h2 e⟩
      rcases List.mem_append.mp hd with hd | hd
      · exact e5 d hd
      · rw [List.mem_singleton.mp hd]
        exact ⟨rg, sr⟩
    · exact ⟨_, _, ys, rs, rfl, hL10, f3', by omega, e5, e6', pen10.mono (by omega), fr10⟩
  rintro σ H8 ⟨v8, v9, ys, rs, rfl, e1, f2', e3, e5, e6', pen8, fr⟩
  have zz : Same (zn (L :: X) H6) (zn (L :: X) H8) := fun b o e => by
    obtain ⟨h1, h2⟩ := zn_some e
    rw [zn_out h1]
    exact fr b o (fun z => h1 (by rw [z]; exact List.mem_cons_of_mem _ al.mem)) (fun z => h1 (by rw [z]; exact List.mem_cons_self)) h2
  have trd : Tr (zn X H8) (.ref dt) (.tuple ds) := (da6.tr.same zz).same zn_drop
  have hy8 := fr _ _ yp yL hy6
  have f2' := f2'.same zn_drop
  have sb8 : Sb p H H8 := .of fun b o hb e => fr b o hb (ne_of_none e nLH) (sb6.to hb e)
  have al8 := al.sb sb8 pen8
  refine ⟨_, rfl, _, rfl, L, _, rfl, .inl ⟨SqL.of e1, fun t2 n2 => ?_⟩⟩
  have s2 := sameNew n2 (.tup ys)
  refine ⟨by show 2 ≤ sizeLine; decide, fun th nth => ?_⟩
  have s3 := sameNew nth (.tup [.ref dt, .ref t2])
  refine ⟨_, rfl, by show 2 ≤ sizeLine; decide, fun t nt => ?_⟩
  have s5 := sameNew nt (.tup [.ref th, .ref y])
  have sA := s2.trans (s3.trans s5)
  have x2 := al8.out n2
  have x3 := (al8.same s2).out nth
  have q2 := s5 _ _ (s3 _ _ (upd_same (H := H8) (a := t2) (o := .tup ys)))
  have q3 := s5 _ _ (upd_same (H := L2.upd H8 t2 (.tup ys)) (a := th) (o := .tup [.ref dt, .ref t2]))
  refine k t th y ds rs is _ ((pen8.same sA).mono (by omega)) (sb8.trans (Sb.same sA)) upd_same (((pen8.same s2).same s3).newp nt) (.tup (by rw [zn_out x3]; exact q3) (.cons (trd.same (zn_mono sA)) (.cons (.tup (by rw [zn_out x2]; exact q2) (f2'.same (zn_mono sA))) .nil))) (sA _ _ hy8) yX il ib ⟨dl1, by omega, by omega, fun d hd => (dok d hd).1, fun d hd => (e5 d hd).1, nd, fd_none (fun d hd => dial_ok (dok d hd).1) srt nd, e6'⟩ (fun d hd => (dok d hd).2) isp dl2 (fun d hd => (e5 d hd).2) (by omega)
end
end Pk
section
set_option maxHeartbeats 1000000
/-! The keys of a dict of the module; figures; what is never come to. -/
namespace Pk
open PySem PySem.Spec PyProof.Rows L2 GxR
/-- at d: a written dict of the module with these keys, in their order -/
structure KKeys (K : PySem.W.Frag) (d : Addr) (zs : List Str) : Prop where
  low : (d == sysModules) = false
  at_ : ∃ (es : Array DictEntry) (n : Nat), K.lookup d = some ⟨.type "dict", none, .dict es n, #[]⟩ ∧ es.size = zs.length ∧ ∀ (i : Nat) (z : Str), zs[i]? = some z → ∃ (e : DictEntry) (t : Tok), es[i]? = some e ∧ e.key = .str z t
def Itkk (zs : List Str) : It := ⟨fun i _ => i < zs.length, fun i H x H' => H' = H ∧ ∃ z, zs[i]? = some z ∧ x = .str z, fun i _ => zs.length ≤ i⟩
def iKKeys (K : PySem.W.Frag) (td : TE) : TI := fun σ H R => td σ H fun x H1 => ∃ (d : Addr) (zs : List Str), x = .ref d ∧ KKeys K d zs ∧ R (Itkk zs) H1
theorem turn_kk {P : Program} {w : World} {K : PySem.W.Frag} {tg : Expr} {d : Addr} {zs : List Str} {es : Array DictEntry} {ep : Nat} (it : Addr) (hl : K.lookup d = some ⟨.type "dict", none, .dict es ep, #[]⟩) (hz : es.size = zs.length) (hk : ∀ (i : Nat) (z : Str), zs[i]? = some z → ∃ (e : DictEntry) (t : Tok), es[i]? = some e ∧ e.key = .str z t) :
    Turn P w K tg (Itkk zs) [it] it (fun i h => h.IsKeyIter it d i zs.length ep) where
  mem := List.mem_singleton.mpr rfl
  obj := fun i h st b hb => by
    obtain rfl := List.mem_singleton.mp hb
    obtain ⟨oi, e, c, q⟩ := st
    exact ⟨oi, e, fun v z => by rw [q] at z; cases z⟩
  keep := fun i h h' st k => st.at fun oi e => k it (List.mem_singleton.mpr rfl) oi e
  item := by
    intro X hP hw hK hc i pins s σ H E I hf st hi
    subst hP hw hK
    obtain ⟨f0, f1, f2, f3, f4, f5⟩ := hf it (List.mem_singleton.mpr rfl)
    obtain ⟨en, t, hen, key⟩ := hk i zs[i] (List.getElem?_eq_getElem hi)
    refine next_key_item st (I.kIn _ _ hl) rfl hz hen fun h' st' sb => ?_
    have J : Inv X pins σ H { s with heap := h' } := I.turned (t' := s.toks) (fun b ob hb e => (sb.2 b hb).trans e) f0 f1 f3 f4 f5
    obtain ⟨oi, e, c, q⟩ := id st'
    exact ⟨en.key, rfl, go_of (s := { s with heap := h' }) e c q (by decide +kernel) ⟨.str zs[i], H, J, by rw [key]; exact ⟨t, rfl⟩, ⟨rfl, _, List.getElem?_eq_getElem hi, rfl⟩, st', fun b hb => (hf b hb).1⟩⟩
  done := by
    intro X hP hw hK hc i pins s σ H E I hf st hi
    subst hP hw hK
    obtain ⟨f0, f1, f2, f3, f4, f5⟩ := hf it (List.mem_singleton.mpr rfl)
    exact next_key_end (I.ok.hd hc) st (I.kIn _ _ hl) rfl hz hi fun h' eb => ⟨rfl, I.turned (t' := s.toks) (fun b ob hb e => eb b ob hb e) f0 f1 f3 f4 f5⟩
  self := fun A i s Q E st h => wpAny_pyIter_keyiter st h
theorem pi_kkeys {X : Cx} {tg e : Expr} {td : TE} (he : PE X e td) : PI X tg e (iKKeys X.K td) := by
  refine ⟨fun pins s σ H R I h => thn (he.run pins s σ H _ I h) fun u s1 ⟨x, H1, I1, rx, d, zs, ex, kk, q⟩ => ?_⟩
  subst ex
  obtain rfl : u = Value.ref d := rx
  obtain ⟨es, n, hl, hz, hk⟩ := kk.at_
  refine iter_keys kk.low (I1.kIn _ _ hl) ⟨rfl, rfl, rfl⟩ rfl (pi_one (tk := s1.toks) I1 _ (turn_kk _ hl hz hk) ⟨_, Heap.get?_push_size _ rfl, rfl, ?_⟩ q)
  rw [hz] <;> rfl
/-- '0' <= sign <= '9' -/
def figC (c : Nat) : Bool := decide (48 ≤ c) && decide (c ≤ 57)
theorem elt_09 {prog : Program} {w : World} {scope : Scope} {x : Str} {j1 j2 : Nat} {p1 p2 p3 p4 : Pos} (hk : scope.kind = .function) (hl : scope.names.lookup x = some .local) (hd : (x == ("__debug__" : Str)) = false := by decide) :
    EltP prog w scope x (.Compare (.Constant (.str "0") j1 p1) [.LtE, .LtE] [.Name x p2, .Constant (.str "9") j2 p3] p4) figC := by
  intro cenv A' E' c t sz m hs hn hm
  have e1 : (!decide ((⟨#[c]⟩ : Str).cps.toList < ("0" : Str).cps.toList)) = decide (48 ≤ c) := by
    show (!decide ([c] < [48])) = decide (48 ≤ c)
    rw [lt1]
    by_cases h : c < 48
    · rw [decide_eq_true h, decide_eq_false (by omega)]; rfl
    · rw [decide_eq_false h, decide_eq_true (by omega)]; rfl
  have e2 : (!decide (("9" : Str).cps.toList < (⟨#[c]⟩ : Str).cps.toList)) = decide (c ≤ 57) := by
    show (!decide ([57] < [c])) = decide (c ≤ 57)
    rw [lt1]
    by_cases h : 57 < c
    · rw [decide_eq_true h, decide_eq_false (by omega)]; rfl
    · rw [decide_eq_false h, decide_eq_true (by omega)]; rfl
  refine Compare_chain (Calls.Constant_str (chain_link (wpAny_Name (wpAny_loadName_local (by rw [hs]; exact hk) (show cenv.scope.names.lookup x = some .local by rw [hs]; exact hl) hn hm ?_) hd))) (by with_unfolding_all rfl)
  refine PySem.P.le_str ?_
  rw [e1]
  refine wpAny_truthy_bool ?_
  cases h1 : decide (48 ≤ c) with
  | false => exact ite_ff ⟨by unfold figC; rw [h1]; rfl, keeps_tok _ _⟩
  | true =>
    refine ite_tt (chain_last (Calls.Constant_str (PySem.P.le_str ?_)))
    rw [e2]
    exact ⟨by unfold figC; rw [h1]; rfl, keeps_tok _ _⟩
end Pk
end
section
set_option maxHeartbeats 1000000
/-! all(..), any(..) of a generator expression whose element is any expression: defs may be called in it. -/
namespace Pk
open PySem PySem.Spec PyProof.Rows L2 GenW NdefX
/-- a generator expression's scope, beside the def's; own: the names of its target -/
structure GenO (N : List Str) (sc scope : Scope) (own : List Str) : Prop where
  kind : scope.kind = .function
  co : scope.isCoroutine = false
  cell : ∀ y ∈ scope.names, y.2 ≠ .cell
  dot : scope.names.lookup (".0" : Str) = some NameKind.local
  free : ∀ y ∈ scope.names, y.2 = .free → sc.names.lookup y.1 = some .cell ∨ sc.names.lookup y.1 = some .free
  loc : ∀ y ∈ scope.names, y.2 = .local → y.1 ∉ N
/-- the context of its frame -/
abbrev gnx (X : Cx) (scope : Scope) (own : List Str) (A : Around) (s : Shared) (H : Hp) (C : Addr) (code : Value) (fp : List Addr) (pn : List (Addr × Obj)) : Cx :=
  { X with A := A.deeper (genEnv scope (cloFrom X.env.cells scope.names []) C code builtinsNs X.env), N := own ++ X.N, s_0 := s, H_0 := H, env := genEnv scope (cloFrom X.env.cells scope.names []) C code builtinsNs X.env, outer := X.stack, stack := genEnv scope (cloFrom X.env.cells scope.names []) C code builtinsNs X.env :: X.stack, ex := fp, fn := fun _ => false, calm := true, pn := pn, xe := fun _ _ => False }
theorem over_loopG {A : Around} {elt : Expr} {gs : List Comprehension} {scope : Scope} {pos : Pos} {it acc : Value} {env : Env} : A.over (.compLoop (.GeneratorExp elt gs scope pos) 0 it acc env) [] = A.deeper env := by
  first
    | rfl
    | (obtain ⟨hd, d, fr, gs, u⟩ := A; simp [Around.over, Around.deeper, marksOver, frameCount, unitsOf, envsOf, guardsOf, pushEnvs, pushGuards, Code.envs, Code.env?, Code.isFrame, Code.guards, Code.isGuard, Code.weight, Code.frames, Code.isCreation, Code.isCaller, Code.cUnits])
theorem over_startG {A : Around} {elt : Expr} {gs : List Comprehension} {scope : Scope} {pos : Pos} {it acc : Value} {env : Env} : A.over (.compStart (.GeneratorExp elt gs scope pos) 0 it acc env) [] = A.deeper env := by
  first
    | rfl
    | (obtain ⟨hd, d, fr, gs, u⟩ := A; simp [Around.over, Around.deeper, marksOver, frameCount, unitsOf, envsOf, guardsOf, pushEnvs, pushGuards, Code.envs, Code.env?, Code.isFrame, Code.guards, Code.isGuard, Code.weight, Code.frames, Code.isCreation, Code.isCaller, Code.cUnits])
abbrev own0 (own : List Str) (σ : L2.St) : L2.St := List.replicate own.length none ++ σ
section
variable {X : Cx} {pins : List (Addr × Obj)} {σ : L2.St} {H : Hp} {s : Shared}
theorem GenO.has {scope : Scope} {own : List Str} (I : L2.Inv X pins σ H s) (S : GenO X.N X.env.scope scope own) : ∀ y ∈ scope.names, y.2 = .free → ∃ c, X.env.cells.lookup y.1 = some c := fun y hy e =>
  (S.free y hy e).elim (fun z => I.ok.has _ (.inl z)) fun z => I.ok.has _ (.inr z)
theorem gnx_start {scope : Scope} {own : List Str} {A : Around} {C a : Addr} {code : Value} {fp : List Addr} {go : Obj} {t : Shared} {m0 : Str → Option Value} (I : L2.Inv X pins σ H s) (S : GenO X.N X.env.scope scope own) (hA : A.handled = none) (hfr : A.frames = some X.stack) (hC : C = s.heap.objs.size)
    (hfp : ∀ b ∈ fp, FpOk X pins H b ∧ b < s.heap.objs.size) (hns : t.heap.Ns C m0) (hk : ∀ b o, s.heap.get? b = some o → t.heap.get? b = some o) (hos : t.os = s.os) (hb : AllBare t.gens) (ha : s.heap.objs.size < a) (hao : t.heap.get? a = some go) (hgo : ∀ v, go.data ≠ .cell v) :
    L2.Inv (gnx X scope own A s H C code fp [(a, go)]) [] (own0 own σ) H t := by
  have hfree := S.has I
  have cm : ∀ {y : Str} {c : Addr}, (cloFrom X.env.cells scope.names []).lookup y = some c → X.env.cells.lookup y = some c := fun e => clo_cm hfree e
  have fk : ∀ {y : Str}, scope.names.lookup y = some .free → ∃ c, (cloFrom X.env.cells scope.names []).lookup y = some c ∧ X.env.cells.lookup y = some c := fun {y} hl => by
    have hy := PySem.mem_of_lookup hl
    obtain ⟨c, hc⟩ := hfree (y, .free) hy rfl
    exact ⟨c, clo_has hfree hy hc, hc⟩
  have nocell : ∀ {y : Str}, scope.names.lookup y ≠ some .cell := fun {y} e => S.cell _ (PySem.mem_of_lookup e) rfl
  have okG : (gnx X scope own A s H C code fp [(a, go)]).Ok := by
    refine ⟨I.ok.mod, S.kind, I.ok.glob, rfl, Nat.le_of_eq hC.symm, fun x y c e1 e2 => I.ok.inj x y c (cm e1) (cm e2), fun y hy => ?_, fun y c h => ?_, fun _ => hA, Around.frames_deeper hfr, .inr ⟨rfl, rfl⟩, fun b hb => ⟨?_, fun y c e z => ?_⟩, I.bs, Nat.le_trans I.ok.bsz I.sz, fun b o e hb => ?_, fun b hb z => ?_, I.stack, I.stkFree⟩
    · rcases hy with hy | hy
      · exact absurd hy nocell
      · obtain ⟨c, h1, _⟩ := fk hy
        exact ⟨c, h1⟩
    · cases h
    · show b ≠ C
      rw [hC]
      exact Nat.ne_of_lt (hfp b hb).2
    · exact (hfp b hb).1.2.2.2.2.1 y c (cm e) z
    · rcases (hfp b hb).1.2.2.2.1 with z | z
      · exact I.ok.noex b o e z
      · exact absurd (Nat.lt_of_lt_of_le (Heap.lt_size e) (Nat.le_trans I.ok.bsz z)) (Nat.lt_irrefl _)
    · rcases List.mem_cons.mp (I.stkSub b z) with z | z
      · exact (hfp b hb).1.2.1 z
      · exact (hfp b hb).1.2.2.1 z
  refine ⟨okG, hos, hb, Un.kept hk, ⟨m0, hns, fun i y v e1 e2 e3 => ?_⟩, fun y c e => ?_, ?_, fun y c e => I.freeC y c (cm e), fun p hp => ?_, I.hok.kept hk, ?_⟩
  · by_cases hi : i < own.length
    · unfold own0 at e2
      rw [List.getElem?_append_left (by simpa using hi), List.getElem?_replicate, if_pos hi] at e2
      cases e2
    · unfold own0 at e2
      rw [List.getElem?_append_right (by simpa using hi), List.length_replicate] at e2
      have e1 : (own ++ X.N)[i]? = some y := e1
      rw [List.getElem?_append_right (by simpa using hi)] at e1
      have hyN := List.mem_of_getElem? e1
      have hfr : scope.names.lookup y = some .free := by
        rcases (show Vis scope y from e3) with z | z | z
        · exact absurd hyN (S.loc _ (PySem.mem_of_lookup z) rfl)
        · exact absurd z nocell
        · exact z
      obtain ⟨m, hn, hl⟩ := I.loc
      have hs := S.free _ (PySem.mem_of_lookup hfr) rfl
      have hvis : Vis X.env.scope y := hs.elim (fun k => .inr (.inl k)) (fun k => .inr (.inr k))
      obtain ⟨u, r, q⟩ := hl _ y v e1 e2 hvis
      refine ⟨u, r, .inr ⟨.inr hfr, ?_⟩⟩
      obtain ⟨c, h1, h2⟩ := fk hfr
      rcases q with ⟨k, _⟩ | ⟨_, c', e', z⟩
      · have k : X.env.scope.names.lookup y = some .local := k
        rcases hs with k' | k' <;> rw [show X.env.scope.names.lookup y = _ from k'] at k <;> cases k
      · rw [h2] at e'
        cases e'
        exact ⟨c, h1, z.keeps hk⟩
  · obtain ⟨w, z⟩ := I.cell y c (cm e)
    exact ⟨w, z.keeps hk⟩
  · show H C = none
    rw [hC]
    exact I.hok.fresh (Nat.le_refl _)
  · have hp : p ∈ [(a, go)] ++ ([] : List (Addr × Obj)) := hp
    rw [List.append_nil] at hp
    rw [List.mem_singleton.mp hp]
    refine ⟨hao, I.hok.fresh (Nat.le_of_lt ha), ?_, fun z => ?_, hgo⟩
    · show a ≠ C
      rw [hC]
      exact Nat.ne_of_gt ha
    · rcases List.mem_cons.mp (I.stkSub a z) with z | z
      · have := I.lt
        rw [← z] at this
        exact absurd (Nat.lt_trans ha this) (Nat.lt_irrefl _)
      · exact I.nofs (Nat.le_of_lt ha) z
  · show (List.replicate own.length none ++ σ).length = (own ++ X.N).length
    rw [List.length_append, List.length_append, List.length_replicate, I.len]
/-- where it has come to an end for its consumer -/
def FinA (X : Cx) (fp : List Addr) (s0 : Shared) (H0 : Hp) (Qb : Hp → Prop) (s1 : Shared) : Prop := ∃ H', s1.os = s0.os ∧ AllBare s1.gens ∧ Un (frs X.stack) fp H0 H' s0.heap s1.heap ∧ HOk X.prog X.w H' s1.heap ∧ Qb H'
theorem FinA.set {fp : List Addr} {s0 s1 : Shared} {H0 : Hp} {Qb : Hp → Prop} (h : FinA X fp s0 H0 Qb s1) {g : Nat} {gs : GenState} (hb : gs.bare = true) : FinA X fp s0 H0 Qb (s1.setGen g gs) :=
  let ⟨H', h1, h2, h3, h4, h5⟩ := h
  ⟨H', h1, allBare_setGen h2 hb, h3, h4, h5⟩
theorem FinA.grow {fp : List Addr} {s0 s1 : Shared} {H0 : Hp} {Qb : Hp → Prop} (h : FinA X fp s0 H0 Qb s1) {h' : Heap} (hk : ∀ b o, s1.heap.get? b = some o → h'.get? b = some o) : FinA X fp s0 H0 Qb { s1 with heap := h' } :=
  let ⟨H', h1, h2, h3, h4, h5⟩ := h
  ⟨H', h1, h2, h3.trans (Un.kept hk), h4.kept hk, h5⟩
/-- what is handed out: a truth; with the one that stops the consumer it is at its end, with the other it sleeps -/
def GYA (X : Cx) (fp : List Addr) (s0 : Shared) (H0 : Hp) (a : Addr) (g : Nat) (sb : Bool) (Q : VK) : Protocol := fun _ _ v s1 kap =>
  ∃ b, v = Value.bool b ∧ (b = sb → FinA X fp s0 H0 (Q (.bl sb)) s1) ∧ (b ≠ sb → s1.os = s0.os ∧ AllBare s1.gens ∧ s1.heap.NoLimit ∧ s1.heap.IsGen a g ∧
    ∀ s' : Shared, s'.os = s1.os → AllBare s'.gens → (∀ b o, s1.heap.get? b = some o → s'.heap.get? b = some o) → kap (.send .none) s')
abbrev GRA (X : Cx) (fp : List Addr) (s0 : Shared) (H0 : Hp) (sb : Bool) (Q : VK) : GenEnd := fun _ _ r s1 => r = .ok .next ∧ FinA X fp s0 H0 (Q (.bl (!sb))) s1
/-- a turn -/
def TurnA (J : It) (g : TG) (te : TE) (own : List Str) (σ : L2.St) (sb : Bool) (Q : VK) (W : Nat → Nat → Hp → Prop) : Prop := ∀ i m H, W i m H →
  (J.stop i H ∧ Q (.bl (!sb)) H) ∨ (J.go i H ∧ ∃ Nx : Hp → Prop, (∀ H', Nx H' → ∃ m', m' < m ∧ W (i + 1) m' H') ∧ ∀ x H', J.yld i H x H' → g x (own0 own σ) H' fun σ2 H2 => L2.wipe σ2 (List.range own.length) = own0 own σ ∧
    te σ2 H2 fun v H3 => ∃ b, v = .bl b ∧ (b = sb → Q (.bl sb) H3) ∧ (b ≠ sb → Nx H3))
theorem segA {elt tg iter : Expr} {scope : Scope} {own : List Str} {gpos : Pos} {A : Around} {s0 : Shared} {H0 : Hp} {C a it : Addr} {code : Value} {fp : List Addr} {go : Obj} {gn : Nat} {tn : Nat → Heap → Prop} {J : It} {g : TG} {te : TE} {sb : Bool} {Q : VK} {W : Nat → Nat → Hp → Prop}
    (T : Turn X.prog X.w X.K tg J fp it tn) (hg : PG (gnx X scope own A s0 H0 C code fp [(a, go)]) tg g) (he : PE (gnx X scope own A s0 H0 C code fp [(a, go)]) elt te) (hgo : ∀ h : Heap, h.get? a = some go → h.IsGen a gn) (hco : scope.isCoroutine = false) (fa : a ∉ fp)
    (turn : TurnA J g te own σ sb Q W) :
    ∀ (n i m : Nat) (t0 t : Shared) (H : Hp), m < n → W i m H → L2.Inv (gnx X scope own A s0 H0 C code fp [(a, go)]) [] (own0 own σ) H t → (∀ b ∈ fp, H b = none) → tn i t.heap →
      Seg (model X.prog X.w) A (GRA X fp s0 H0 sb Q) (GYA X fp s0 H0 a gn sb Q) n t0 (.compLoop (.GeneratorExp elt [⟨tg, iter, [], 0⟩] scope gpos) 0 (.ref it) .none (genEnv scope (cloFrom X.env.cells scope.names []) C code builtinsNs X.env))
        ((model X.prog X.w).den (.compLoop (.GeneratorExp elt [⟨tg, iter, [], 0⟩] scope gpos) 0 (.ref it) .none (genEnv scope (cloFrom X.env.cells scope.names []) C code builtinsNs X.env))) [] t := by
  intro n
  induction n with
  | zero => intro i m t0 t H hm; exact absurd hm (Nat.not_lt_zero _)
  | succ n ih =>
    intro i m t0 t H hm w I nf st
    have stat : ∀ {pins' : List (Addr × Obj)} {σ' : L2.St} {H' : Hp} {s' : Shared}, L2.Inv (gnx X scope own A s0 H0 C code fp [(a, go)]) pins' σ' H' s' → (∀ b ∈ fp, H' b = none) → ∀ b ∈ fp, FpOk (gnx X scope own A s0 H0 C code fp [(a, go)]) [] H' b := fun {pins' σ' H' s'} I' hn b hb =>
      ⟨hn b hb, (I'.ok.exf b hb).1, I'.ok.exfs b hb, .inl hb, fun x c e => (I'.ok.exf b hb).2 x c e, fun p hp z => by
        have hp : p ∈ [(a, go)] ++ ([] : List (Addr × Obj)) := hp
        rw [List.append_nil] at hp
        rw [List.mem_singleton.mp hp] at z
        have z : a = b := z
        exact fa (by rw [z]; exact hb)⟩
    generalize hY : gnx X scope own A s0 H0 C code fp [(a, go)] = Y at hg he I stat ih
    generalize hE : genEnv scope (cloFrom X.env.cells scope.names []) C code builtinsNs X.env = env at ih ⊢
    have yP : Y.prog = X.prog := by rw [← hY]
    have yW : Y.w = X.w := by rw [← hY]
    have yK : Y.K = X.K := by rw [← hY]
    have yA : Y.A = A.deeper env := by rw [← hY, ← hE]
    have yE : Y.env = env := by rw [← hY, ← hE]
    have yX : Y.xe = fun _ _ => False := by rw [← hY]
    have yC : Y.calm = true := by rw [← hY]
    have fin : ∀ {pins' : List (Addr × Obj)} {σ' : L2.St} {H' : Hp} {s' : Shared} {Qb : Hp → Prop}, L2.Inv Y pins' σ' H' s' → Qb H' → FinA X fp s0 H0 Qb s' := fun {pins' σ' H' s' Qb} I' q => by
      subst hY
      exact ⟨H', I'.os, I'.bare, I'.base, I'.hok, q⟩
    have pinG : ∀ {pins' : List (Addr × Obj)} {σ' : L2.St} {H' : Hp} {s' : Shared}, L2.Inv Y pins' σ' H' s' → s'.heap.IsGen a gn ∧ s'.os = s0.os ∧ s'.heap.NoLimit := fun {pins' σ' H' s'} I' => by
      have l := I'.nolimit
      subst hY
      exact ⟨hgo _ (I'.pin (a, go) (List.mem_append_left _ (List.mem_singleton.mpr rfl))).1, I'.os, l⟩
    have hy : ∀ v, yieldOut env v = yieldValue v := fun v => by
      have e : env.scope.isCoroutine = false := by rw [← hE]; exact hco
      simp only [yieldOut, e, Bool.false_eq_true, if_false]
    show Seg _ A _ _ _ t0 _ ((compTurn (.GeneratorExp elt [⟨tg, iter, [], 0⟩] scope gpos) 0 (.ref it) .none env).onRaise (leaving env)) [] t
    rw [compTurn_gen, Sem.onRaise_eq_wrap]
    refine seg_bind_wrap (wpAny_standAt ?_)
    rcases turn i m H w with ⟨stop, q⟩ | ⟨go', Nx, hN, step⟩
    · have td := T.done Y yP yW yK yC i [] t _ H (fun _ _ => False) I (stat I nf) st stop
      rw [yA] at td
      refine seg_bind_wrap ?_
      rw [over_loopG]
      refine thnF td fun r t1 ⟨hr, I1⟩ => ?_
      subst hr
      exact seg_end (.ok .next) ⟨rfl, fin I1 q⟩
    · have ti := T.item Y yP yW yK yC i [] t _ H (fun _ _ => False) I (stat I nf) st go'
      rw [yA] at ti
      refine seg_bind_wrap ?_
      rw [over_loopG]
      refine thnF ti fun r t1 ⟨u, hr, h1⟩ => ?_
      subst hr
      refine seg_bind_wrap ?_
      rw [over_loopG]
      refine thnF h1 fun _ t2 ⟨x, H2, I2, r2, y2, st2, n2⟩ => ?_
      have I2' := I2.pinned (stat I2 n2) (T.obj _ _ st2)
      have ga := hg.run _ t2 _ H2 x u _ I2' r2 (step x H2 y2)
      rw [yA, yE, yX, yP, yW] at ga
      refine seg_bind_wrap ?_
      rw [over_loopG]
      refine thnF ga fun _ t3 ⟨σ3, H3, I3, hw, q3⟩ => ?_
      refine seg_bind_wrap ?_
      simp only [List.forIn_nil]
      refine wpAny_pure ?_
      simp only [if_true]
      simp only [hy]
      rw [Sem.bind_eq_wrap', Sem.bind_eq_wrap', Sem.wrap_wrap, Sem.wrap_wrap]
      have ge := he.run _ t3 σ3 H3 _ I3 q3
      rw [yA, yE, yX, yP, yW] at ge
      refine seg_wrap ?_
      rw [over_loopG]
      refine thnF ge fun y t4 ⟨v, H4, I4, r4, b, hv, qf, qt⟩ => ?_
      subst hv
      cases (show y = Value.bool b from r4)
      obtain ⟨g1, g2, g3⟩ := pinG I4
      refine seg_at (seg_yield rfl rfl rfl ⟨b, rfl, fun e => fin I4 (qf e), fun e => ⟨g2, I4.bare, g3, g1, fun t5 ho hb hk => ?_⟩⟩)
      obtain ⟨m', hm', w'⟩ := hN H4 (qt e)
      have pin' : ∀ b ∈ fp, ∀ o, t2.heap.get? b = some o → t4.heap.get? b = some o ∧ H4 b = none := fun b hb o e =>
        let z := I4.pin (b, o) (List.mem_append_right _ (List.mem_append_right _ (mem_pinsAt hb e)))
        ⟨z.1, z.2.1⟩
      have hl : (own0 own σ).length = σ3.length := by rw [← hw, L2.wipe_length]
      have I5 : L2.Inv Y [] (own0 own σ) H4 t4 := (I4.unpinned (pins := [])).weak hl fun j v e => by
        rw [← hw] at e
        exact (wipe_some e).1
      have I6 : L2.Inv Y [] (own0 own σ) H4 t5 := I5.call' (ch := []) ho (Un.kept hk) (I5.hok.kept hk) hb fun b z => absurd z (by simp)
      refine seg_again rfl (ih (i + 1) m' t5 t5 H4 (by omega) w' I6 (fun b hb => ?_) (T.keep _ _ _ st2 fun b hb o e => hk b o (pin' b hb o e).1))
      obtain ⟨o, e, _⟩ := T.obj _ _ st2 b hb
      exact (pin' b hb o e).2
end
end Pk
end
section
set_option maxHeartbeats 1000000
/-! The rules: all(elt for tg in iter), any(elt for tg in iter). -/
namespace Pk
open PySem PySem.Spec PyProof.Rows L2 GenW NdefX
section
variable {X : Cx} {pins : List (Addr × Obj)} {σ : L2.St} {H : Hp} {s : Shared}
/-- asleep, n things at most to come -/
def AslA (X : Cx) (A : Around) (fp : List Addr) (s0 : Shared) (H0 : Hp) (a : Addr) (g : Nat) (sb : Bool) (Q : VK) (n : Nat) (t : Shared) : Prop :=
  t.heap.IsGen a g ∧ t.heap.NoLimit ∧ AllBare t.gens ∧ ∃ gs, t.gens[g]? = some gs ∧ ∀ t2 : Shared, t2.os = t.os → AllBare t2.gens → (∀ b o, t.heap.get? b = some o → t2.heap.get? b = some o) → gs.Goes (model X.prog X.w) A (GRA X fp s0 H0 sb Q) (GYA X fp s0 H0 a g sb Q) n (.send .none) t2
/-- one thing more -/
theorem AslA.next {A : Around} {fp : List Addr} {s0 t : Shared} {H0 : Hp} {a : Addr} {g n : Nat} {sb : Bool} {Q : VK} {Qn : Option Value → Shared → Prop} {E : Value → Shared → Prop} (hA : A.handled = none) (hd : A.depth < recursionLimit) (h : AslA X A.in1 fp s0 H0 a g sb Q n t)
    (hs : ∀ t', FinA X fp s0 H0 (Q (.bl sb)) t' → Qn (some (.bool sb)) t') (hy : ∀ m t', n = m + 1 → AslA X A.in1 fp s0 H0 a g sb Q m t' → Qn (some (.bool (!sb))) t') (he : ∀ t', FinA X fp s0 H0 (Q (.bl (!sb))) t' → Qn none t') :
    wpAny (model X.prog X.w) A (pyNext (.ref a)) Qn E t := by
  obtain ⟨hg, hl, hb, gs, hgs, hgo⟩ := h
  have hgl : g < t.gens.size := (Array.getElem?_eq_some_iff.mp hgs).1
  have hgo' := hgo (t.setGen g .running) rfl (allBare_setGen hb rfl) fun _ _ e => e
  refine wpAny_gsz (n := g + 1) hgl (wpAny_pyNext_genexpQ (P := fun _ _ s1 => FinA X fp s0 H0 (Q (.bl (!sb))) s1) hA hl hd hg hgs hgo' (fun v s1 gs' hbare hv hsz => ?_) (fun s1 hp h' hk _ => ?_))
  · obtain ⟨b, rfl, hf, ht⟩ := hv
    by_cases e : b = sb
    · rw [e]
      exact hs _ ((hf e).set hbare)
    · have eb : b = !sb := by cases b <;> cases sb <;> first | rfl | exact absurd rfl e
      obtain ⟨os1, hb1, hl1, hg1, kap⟩ := ht e
      rw [eb]
      have hsz1 : g < s1.gens.size := by
        have q : (s1.setGen g gs').gens.size = s1.gens.size := setGen_size _ _ _
        omega
      cases n with
      | zero => exact (kap s1 rfl hb1 fun _ _ e => e).elim
      | succ m => exact hy m _ rfl ⟨hg1, hl1, allBare_setGen hb1 hbare, gs', setGen_at hsz1, fun t2 h1 h2 h3 => kap t2 h1 h2 h3⟩
  · have q := (FinA.set (g := g) (gs := .finished) hp rfl).grow (h' := h') hk
    exact he _ q
theorem all_loopG {A : Around} {fp : List Addr} {s0 : Shared} {H0 : Hp} {a : Addr} {g : Nat} {Q : VK} {R : Result → Shared → Prop} (hA : A.handled = none) (hd : A.depth < recursionLimit) (hR : ∀ b t', FinA X fp s0 H0 (Q (.bl b)) t' → R (.ok (.ret (.bool b))) t') :
    ∀ (n : Nat) (t : Shared), AslA X A.in1.in1 fp s0 H0 a g false Q n t → codeAny (model X.prog X.w) A (.builtin "all.loop" ⟨[.ref a], []⟩) R t := by
  intro n
  induction n with
  | zero =>
    intro t st
    refine codeAny_builtin PySem.F.entry_all_loop ?_
    rw [Around.under_plainId PySem.F.plain_all_loop _]
    show wpAny _ A.in1 (pyNext (.ref a) >>= _) _ _ t
    refine wpAny_bind (st.next (A := A.in1) hA hd (fun t' hf => ?_) (fun m t' e => absurd e (by omega)) fun t' hf => wpAny_bind (wpAny_rule (wpAny_pure (hR true t' hf))))
    refine wpAny_bind (wpAny_holding (wpAny_truthy_bool (wpAny_bind (wpAny_letGo ?_))))
    simp only [Bool.false_eq_true, if_false]
    exact wpAny_bind (wpAny_rule (wpAny_pure (hR false t' hf)))
  | succ n ih =>
    intro t st
    refine codeAny_builtin PySem.F.entry_all_loop ?_
    rw [Around.under_plainId PySem.F.plain_all_loop _]
    show wpAny _ A.in1 (pyNext (.ref a) >>= _) _ _ t
    refine wpAny_bind (st.next (A := A.in1) hA hd (fun t' hf => ?_) (fun m t' e st' => ?_) fun t' hf => wpAny_bind (wpAny_rule (wpAny_pure (hR true t' hf))))
    · refine wpAny_bind (wpAny_holding (wpAny_truthy_bool (wpAny_bind (wpAny_letGo ?_))))
      simp only [Bool.false_eq_true, if_false]
      exact wpAny_bind (wpAny_rule (wpAny_pure (hR false t' hf)))
    · refine wpAny_bind (wpAny_holding (wpAny_truthy_bool (wpAny_bind (wpAny_letGo ?_))))
      simp only [Bool.not_false, if_true]
      have em : m = n := by omega
      subst em
      exact wpAny_pure ⟨plainId_quiet PySem.F.plain_all_loop _, ih t' st'⟩
theorem any_loopG {A : Around} {fp : List Addr} {s0 : Shared} {H0 : Hp} {a : Addr} {g : Nat} {Q : VK} {R : Result → Shared → Prop} (hA : A.handled = none) (hd : A.depth < recursionLimit) (hR : ∀ b t', FinA X fp s0 H0 (Q (.bl b)) t' → R (.ok (.ret (.bool b))) t') :
    ∀ (n : Nat) (t : Shared), AslA X A.in1.in1 fp s0 H0 a g true Q n t → codeAny (model X.prog X.w) A (.builtin "any.loop" ⟨[.ref a], []⟩) R t := by
  intro n
  induction n with
  | zero =>
    intro t st
    refine codeAny_builtin PySem.F.entry_any_loop ?_
    rw [Around.under_plainId PySem.F.plain_any_loop _]
    show wpAny _ A.in1 (pyNext (.ref a) >>= _) _ _ t
    refine wpAny_bind (st.next (A := A.in1) hA hd (fun t' hf => ?_) (fun m t' e => absurd e (by omega)) fun t' hf => wpAny_bind (wpAny_rule (wpAny_pure (hR false t' hf))))
    refine wpAny_bind (wpAny_holding (wpAny_truthy_bool (wpAny_bind (wpAny_letGo ?_))))
    simp only [if_true]
    exact wpAny_bind (wpAny_rule (wpAny_pure (hR true t' hf)))
  | succ n ih =>
    intro t st
    refine codeAny_builtin PySem.F.entry_any_loop ?_
    rw [Around.under_plainId PySem.F.plain_any_loop _]
    show wpAny _ A.in1 (pyNext (.ref a) >>= _) _ _ t
    refine wpAny_bind (st.next (A := A.in1) hA hd (fun t' hf => ?_) (fun m t' e st' => ?_) fun t' hf => wpAny_bind (wpAny_rule (wpAny_pure (hR false t' hf))))
    · refine wpAny_bind (wpAny_holding (wpAny_truthy_bool (wpAny_bind (wpAny_letGo ?_))))
      simp only [if_true]
      exact wpAny_bind (wpAny_rule (wpAny_pure (hR true t' hf)))
    · refine wpAny_bind (wpAny_holding (wpAny_truthy_bool (wpAny_bind (wpAny_letGo ?_))))
      simp only [Bool.not_true, Bool.false_eq_true, if_false]
      have em : m = n := by omega
      subst em
      exact wpAny_pure ⟨plainId_quiet PySem.F.plain_any_loop _, ih t' st'⟩
/-- the reading: W by the turn and a measure; sb: the truth that stops it (all: False, any: True) -/
def tQuG (P : Addr) (sb : Bool) (wi : TI) (g : TG) (te : TE) (own : List Str) : TE := fun σ H Q => wi σ H fun J H1 => GxR.TabG H1 P ∧ ∀ H2, GxR.Tabbed P H1 H2 → ∃ W : Nat → Nat → Hp → Prop, (∃ m, W 0 m H2) ∧ TurnA J g te own σ sb Q W
/-- made: it sleeps ahead of its first thing -/
theorem made_gen {c P : Addr} {elt tg iter : Expr} {gpos : Pos} {scope : Scope} {own : List Str} {wi : TI} {g : TG} {te : TE} {k : Nat} {sb : Bool} {Q : VK} {Q' : Value → Shared → Prop}
    (hr : Room (k + 2) X.A) (TB : GxR.TabB X.base X.mg c P) (hcode : X.env.code = .ref c) (S : GenO X.N X.env.scope scope own) (hi : PI X tg iter wi)
    (hg : ∀ (A : Around) (s : Shared) (H : Hp) (C : Addr) (code : Value) (fp : List Addr) (pn : List (Addr × Obj)), Room k (A.deeper (genEnv scope (cloFrom X.env.cells scope.names []) C code builtinsNs X.env)) → PG (gnx X scope own A s H C code fp pn) tg g)
    (he : ∀ (A : Around) (s : Shared) (H : Hp) (C : Addr) (code : Value) (fp : List Addr) (pn : List (Addr × Obj)), Room k (A.deeper (genEnv scope (cloFrom X.env.cells scope.names []) C code builtinsNs X.env)) → PE (gnx X scope own A s H C code fp pn) elt te)
    (hs : ∀ v, genFold iter X.env v = pure v) (I : L2.Inv X pins σ H s) (h : tQuG P sb wi g te own σ H Q)
    (hQ : ∀ (a : Addr) (gn : Nat) (fp : List Addr) (s0 : Shared) (H0 : Hp) (n : Nat) (t : Shared), AslA X X.A.in1.in1 fp s0 H0 a gn sb Q n t → (∀ b t', FinA X fp s0 H0 (Q (.bl b)) t' → EP X pins σ Q (.bool b) t') → Q' (.ref a) t) :
    wpAny (model X.prog X.w) X.A (eval (.GeneratorExp elt [⟨tg, iter, [], 0⟩] scope gpos) X.env) Q' X.xe s := by
  refine wpAny_GeneratorExp_make S.co (closure_ok (S.has I)) S.cell S.dot S.kind (by have := hr.dp; omega) (thn (hi.run pins s σ H _ I h) fun xv s1 hx => thn hx fun itv s2 h2 => ?_) hs
  obtain ⟨it, fp, tn, J, H1, rfl, I1, T, st1, f1, ⟨ps, hP, ht⟩, q⟩ := h2
  refine ⟨I1.nolimit, ?_⟩
  have hPs : s2.heap.get? P = some { cls := .none, data := .fields ps } := I1.hok P _ hP
  have cd : PySem.W.CodeHd s2.heap c P := TB.code.keeps fun b u e => I1.bk b u e
  have nfP : ∀ b ∈ fp, b ≠ P := fun b hb z => by
    have e := (f1 b hb).1
    rw [z, hP] at e
    cases e
  have cont : ∀ (code : Value) (h3 : Heap) (tk : Nat) (H2 : Hp), L2.Inv X pins σ H2 { s2 with heap := h3, toks := tk } → GxR.Tabbed P H1 H2 → (∀ b o, b ≠ P → s2.heap.get? b = some o → h3.get? b = some o) →
      wpAny (model X.prog X.w) X.A (builtinsFor X.env.globals X.env.builtins) (fun bi s4 => ∀ h' : Heap, h'.Ns s4.heap.objs.size (fun y => if y = ".0" then some (.ref it) else none) → Heap.SameBut s4.heap.objs.size (s4.heap.push { cls := .type "frame", data := .dict #[] }) h' →
        Q' (.ref h'.objs.size) { s4 with gens := s4.gens.push (.fresh (.compStart (.GeneratorExp elt [⟨tg, iter, [], 0⟩] scope gpos) 0 (.ref it) .none (genEnv scope (cloFrom X.env.cells scope.names []) s4.heap.objs.size code bi X.env))), toks := s4.toks + 1 + 1 + 1, heap := h'.push { cls := .type "generator", data := .fields #[.int s4.gens.size 0, .str "<genexpr>" (s4.toks + 1), .str (X.env.qual ++ "<genexpr>") (s4.toks + 1 + 1)] } }) X.xe { s2 with heap := h3, toks := tk } := by
    intro code h3 tk H2 I2 hT kp3
    obtain ⟨bm, ob, e1, e2, e3, e4, e5, e6, e7, e8⟩ := TB.bm
    refine wpAny_builtinsFor (m := X.mg) (by rw [I2.ok.glob]; exact I2.mod.glob.keeps I2.bk) e1 e2 (I2.bk _ _ e5) e6 e7 e8 ?_
    intro h' hn' hs'
    generalize hs3 : ({ s2 with heap := h3, toks := tk } : Shared) = s3 at I2 hn' hs' ⊢
    have h33 : s3.heap = h3 := by rw [← hs3]
    have hsz : h'.objs.size = s3.heap.objs.size + 1 := by rw [hs'.1, Heap.size_push]
    have keep' : ∀ b o, s3.heap.get? b = some o → h'.get? b = some o := fun b o e => hs'.extBut b o (Nat.ne_of_lt (Heap.lt_size e)) (Heap.get?_push_of_some _ e)
    obtain ⟨W, ⟨m0, w0⟩, turn⟩ := q H2 hT
    generalize hgo : ({ cls := .type "generator", data := .fields #[.int s3.gens.size 0, .str "<genexpr>" (s3.toks + 1), .str (X.env.qual ++ "<genexpr>") (s3.toks + 1 + 1)] } : Obj) = go
    have gat : (h'.push go).get? h'.objs.size = some go := Heap.get?_push_size _ (by rw [← hgo]; rfl)
    have isG : ∀ h : Heap, h.get? h'.objs.size = some go → h.IsGen h'.objs.size s3.gens.size := fun h e => ⟨go, _, _, e, by rw [← hgo], by rw [← hgo], by rw [← hgo]⟩
    have nocell : ∀ v, go.data ≠ .cell v := fun v z => by rw [← hgo] at z; cases z
    have keep5 : ∀ b o, s3.heap.get? b = some o → (h'.push go).get? b = some o := fun b o e => Heap.get?_push_of_some _ (keep' b o e)
    have f2 : ∀ b ∈ fp, FpOk X pins H2 b ∧ b < s3.heap.objs.size := fun b hb => by
      refine ⟨⟨by rw [hT.2 b (nfP b hb)]; exact (f1 b hb).1, (f1 b hb).2⟩, ?_⟩
      obtain ⟨o, e, _⟩ := T.obj _ _ st1 b hb
      rw [h33]
      exact Heap.lt_size (kp3 b o (nfP b hb) e)
    have st3 : tn 0 s3.heap := T.keep _ _ _ st1 fun b hb o e => by rw [h33]; exact kp3 b o (nfP b hb) e
    have hrA : Room (k + 1) X.A.in1.in1 := ⟨hr.hd, by have := hr.dp; show X.A.depth + 3 * (k + 1) + 5 < _; omega, by have := hr.un; show X.A.units + 1 + 1 + 16 * (k + 1) + 200 < _; omega⟩
    have fa : h'.objs.size ∉ fp := fun z => by
      have h9 : (h'.objs.size : Nat) < s3.heap.objs.size := (f2 _ z).2
      omega
    have hrD := hrA.deeper (genEnv scope (cloFrom X.env.cells scope.names []) s3.heap.objs.size code builtinsNs X.env)
    have pg := hg X.A.in1.in1 s3 H2 s3.heap.objs.size code fp [(h'.objs.size, go)] hrD
    have pe := he X.A.in1.in1 s3 H2 s3.heap.objs.size code fp [(h'.objs.size, go)] hrD
    have hfr : X.A.in1.in1.frames = some X.stack := I2.ok.frames
    refine hQ h'.objs.size s3.gens.size fp s3 H2 (m0 + 1) _ ⟨isG _ gat, I2.nolimit.keeps keep5, I2.bare.push rfl, _, Array.getElem?_push_size .., fun t2 ho hb2 hk => ⟨rfl, ?_⟩⟩ (fun b t' hf => ?_)
    · have kt : ∀ b o, s3.heap.get? b = some o → t2.heap.get? b = some o := fun b o e => hk b o (keep5 b o e)
      have ho3 : t2.os = s3.os := ho
      have I3 := gnx_start (code := code) (t := t2) I2 S hrA.hd hfr rfl f2 ((hn'.push go).keeps hk) kt ho3 hb2 (by omega) (hk _ _ gat) nocell
      have st5 : tn 0 t2.heap := T.keep _ _ _ st3 fun b _ o e => kt b o e
      have loop := segA (iter := iter) (gpos := gpos) (gn := s3.gens.size) T pg pe isG S.co fa turn (m0 + 1) 0 m0 t2 t2 H2 (Nat.lt_succ_self _) w0 I3 (fun b hb => (f2 b hb).1.1) st5
      show Seg _ X.A.in1.in1 _ _ _ t2 _ ((compStart (.GeneratorExp elt [⟨tg, iter, [], 0⟩] scope gpos) 0 (.ref it) .none (genEnv scope (cloFrom X.env.cells scope.names []) s3.heap.objs.size code builtinsNs X.env)).onRaise (leaving _)) [] t2
      unfold compStart
      rw [Sem.onRaise_eq_wrap]
      show Seg _ X.A.in1.in1 _ _ _ t2 _ ((ask >>= _).wrap _ _ _ _) [] t2
      refine seg_bind_wrap (wpAny_askSetting ?_)
      split
      · exact seg_again rfl loop
      · first
          | exact seg_bind_wrap (wpAny_rule (seg_bind_wrap (wpAny_standAt (seg_bind_wrap (T.self _ 0 t2 _ _ st5 (seg_again rfl loop))))))
          | (refine seg_bind_wrap (wpAny_rule ?_); show Seg _ X.A.in1.in1 _ _ _ t2 _ ((standAt iter.pos >>= _).wrap _ _ _ _) [] t2; exact seg_bind_wrap (wpAny_standAt (seg_bind_wrap (T.self _ 0 t2 _ _ st5 (seg_again rfl loop)))))
    · obtain ⟨H', h1, h2, h3', h4, h5⟩ := hf
      exact ⟨.bl b, H', I2.call' (ch := fp) h1 h3' h4 h2 (fun b hb => ⟨(f2 b hb).1.2.2.2.1, (f2 b hb).1.2.1, (f2 b hb).1.2.2.2.2.1, (f2 b hb).1.2.2.2.2.2⟩), rfl, h5⟩
  cases hf : codeAmong gpos ps.toList with
  | none =>
    refine wpAny_genexprCodeX hcode (cd.code hPs ht) (cd.tab hPs) hf fun c' h' tk hx hge hlt hco' _ htab' _ => ?_
    obtain ⟨o1, vs, f1', tf, fl, tg', inF, tx, tt, op, _, _, _, _, _, _, _, _, _, htr, _⟩ := hco'
    have kp : ∀ b o, b ≠ P → s2.heap.get? b = some o → h'.get? b = some o := fun b o hb e => hx b o hb e
    refine cont _ h' tk (upd H1 P (.tbl (ps ++ #[rawInt gpos.line, rawInt gpos.col, .ref c']))) (GxR.inv_tab (g' := s2.gens) (d' := s2.drawn) (t' := tk) I1 hP kp htab'.2 I1.bare) ⟨⟨_, upd_same, htr⟩, fun b hb => upd_ne hb⟩ kp
  | some cv =>
    refine wpAny_genexprCode_hit hcode (cd.code hPs ht) hf ?_
    exact cont cv s2.heap s2.toks H1 (I1.tok _) ⟨⟨ps, hP, ht⟩, fun _ _ => rfl⟩ fun _ _ _ e => e
theorem pe_allG {c P : Addr} {elt tg iter : Expr} {gpos p pos : Pos} {scope : Scope} {own : List Str} {wi : TI} {g : TG} {te : TE} {k : Nat}
    (hr : Room (k + 2) X.A) (hgA : Gl X "all") (hmA : X.mg "all" = none) (TB : GxR.TabB X.base X.mg c P) (hcode : X.env.code = .ref c) (S : GenO X.N X.env.scope scope own) (hi : PI X tg iter wi)
    (hg : ∀ (A : Around) (s : Shared) (H : Hp) (C : Addr) (code : Value) (fp : List Addr) (pn : List (Addr × Obj)), Room k (A.deeper (genEnv scope (cloFrom X.env.cells scope.names []) C code builtinsNs X.env)) → PG (gnx X scope own A s H C code fp pn) tg g)
    (he : ∀ (A : Around) (s : Shared) (H : Hp) (C : Addr) (code : Value) (fp : List Addr) (pn : List (Addr × Obj)), Room k (A.deeper (genEnv scope (cloFrom X.env.cells scope.names []) C code builtinsNs X.env)) → PE (gnx X scope own A s H C code fp pn) elt te)
    (hs : ∀ v, genFold iter X.env v = pure v)
    (hst : starEach [.GeneratorExp elt [⟨tg, iter, [], 0⟩] scope gpos] X.env = (false, eval (.GeneratorExp elt [⟨tg, iter, [], 0⟩] scope gpos) X.env) :: starEach [] X.env := by rfl) :
    PE X (.Call (.Name "all" p) [.GeneratorExp elt [⟨tg, iter, [], 0⟩] scope gpos] [] pos) (tQuG P false wi g te own) := by
  refine ⟨fun pins s σ H Q I h => wpAny_Call_Name_kw (ld_blt I hgA hmA (by decide +kernel : bootBuiltins "all" = some (.builtin "all")) ?_)⟩
  refine PyProof.Rows.callWith_builtin1 ?_ hst (by rfl)
  rw [hst]
  show wpAny _ _ (spliced ((false, eval (.GeneratorExp elt [⟨tg, iter, [], 0⟩] scope gpos) X.env) :: backTo pos (starEach [] X.env))) _ _ s
  refine Calls.spliced_cons (made_gen hr TB hcode S hi hg he hs I h fun a gn fp s0 H0 n t st hE => Calls.spliced_nil ?_)
  refine call_function_tree PySem.F.kind_all PySem.F.plain_all PySem.F.entry_all (PySem.F.args_all1 _) ?_
  unfold Builtin.«all»
  refine wpAny_bind (m := oneArg "all" _) (wpAny_pure ?_)
  refine wpAny_bind (wpAny_pyIter_gen st.1 ?_)
  exact wpAny_pure ⟨plainId_quiet PySem.F.plain_all_loop _, all_loopG hr.hd (by have := hr.dp; omega) hE n t st⟩
theorem pe_anyG {c P : Addr} {elt tg iter : Expr} {gpos p pos : Pos} {scope : Scope} {own : List Str} {wi : TI} {g : TG} {te : TE} {k : Nat}
    (hr : Room (k + 2) X.A) (hgA : Gl X "any") (hmA : X.mg "any" = none) (TB : GxR.TabB X.base X.mg c P) (hcode : X.env.code = .ref c) (S : GenO X.N X.env.scope scope own) (hi : PI X tg iter wi)
    (hg : ∀ (A : Around) (s : Shared) (H : Hp) (C : Addr) (code : Value) (fp : List Addr) (pn : List (Addr × Obj)), Room k (A.deeper (genEnv scope (cloFrom X.env.cells scope.names []) C code builtinsNs X.env)) → PG (gnx X scope own A s H C code fp pn) tg g)
    (he : ∀ (A : Around) (s : Shared) (H : Hp) (C : Addr) (code : Value) (fp : List Addr) (pn : List (Addr × Obj)), Room k (A.deeper (genEnv scope (cloFrom X.env.cells scope.names []) C code builtinsNs X.env)) → PE (gnx X scope own A s H C code fp pn) elt te)
    (hs : ∀ v, genFold iter X.env v = pure v)
    (hst : starEach [.GeneratorExp elt [⟨tg, iter, [], 0⟩] scope gpos] X.env = (false, eval (.GeneratorExp elt [⟨tg, iter, [], 0⟩] scope gpos) X.env) :: starEach [] X.env := by rfl) :
    PE X (.Call (.Name "any" p) [.GeneratorExp elt [⟨tg, iter, [], 0⟩] scope gpos] [] pos) (tQuG P true wi g te own) := by
  refine ⟨fun pins s σ H Q I h => wpAny_Call_Name_kw (ld_blt I hgA hmA (by decide +kernel : bootBuiltins "any" = some (.builtin "any")) ?_)⟩
  refine PyProof.Rows.callWith_builtin1 ?_ hst (by rfl)
  rw [hst]
  show wpAny _ _ (spliced ((false, eval (.GeneratorExp elt [⟨tg, iter, [], 0⟩] scope gpos) X.env) :: backTo pos (starEach [] X.env))) _ _ s
  refine Calls.spliced_cons (made_gen hr TB hcode S hi hg he hs I h fun a gn fp s0 H0 n t st hE => Calls.spliced_nil ?_)
  refine call_function_tree PySem.F.kind_any PySem.F.plain_any PySem.F.entry_any (PySem.F.args_any1 _) ?_
  unfold Builtin.«any»
  refine wpAny_bind (m := oneArg "any" _) (wpAny_pure ?_)
  refine wpAny_bind (wpAny_pyIter_gen st.1 ?_)
  exact wpAny_pure ⟨plainId_quiet PySem.F.plain_any_loop _, any_loopG hr.hd (by have := hr.dp; omega) hE n t st⟩
end
end Pk
end
section
set_option maxHeartbeats 1000000
/-! Readings of all, any over what walks; slices of lists with a step. -/
namespace Pk
open PySem PySem.Spec PyProof.Rows L2 GenW NdefX
/-- over anything that walks -/
theorem qu_it {J : It} {n : Nat} {G : Hp → Prop} {Y : Nat → Hp → V → Hp → Prop} (w : L2.Walk J n G Y) {g : TG} {te : TE} {own : List Str} {σ : L2.St} {sb : Bool} {Q : VK} {H0 : Hp} (Pv : Nat → Hp → Prop) (h0 : Pv 0 H0) (hG : ∀ i H, i ≤ n → Pv i H → G H)
    (hs : ∀ i x H H', i < n → Pv i H → Y i H x H' → g x (own0 own σ) H' fun σ2 H2 => L2.wipe σ2 (List.range own.length) = own0 own σ ∧ te σ2 H2 fun v H3 => ∃ b, v = .bl b ∧ (b = sb → Q (.bl sb) H3) ∧ (b ≠ sb → Pv (i + 1) H3))
    (hd : ∀ H, Pv n H → Q (.bl (!sb)) H) : ∃ W : Nat → Nat → Hp → Prop, (∃ m, W 0 m H0) ∧ TurnA J g te own σ sb Q W := by
  refine ⟨fun i m H => m = n - i ∧ i ≤ n ∧ Pv i H, ⟨n, by simp, Nat.zero_le _, h0⟩, ?_⟩
  rintro i m H ⟨rfl, hi, p⟩
  have q := hG i H hi p
  by_cases hlt : i < n
  · exact .inr ⟨w.goes i H hlt q, Pv (i + 1), fun H' p' => ⟨n - (i + 1), by omega, rfl, hlt, p'⟩, fun x H' y => hs i x H H' hlt p (w.yields i H x H' hlt q y)⟩
  · have e : i = n := by omega
    subst e
    exact .inl ⟨w.stops H q, hd H p⟩
/-- what a slice picks -/
def pickV {α : Type} (xs : List α) (lo hi st : Option Int) : List α := (sliceRange (sliceBounds lo hi st xs.length).1 (sliceBounds lo hi st xs.length).2.1 (sliceBounds lo hi st xs.length).2.2).filterMap (xs[·]?)
theorem pick_vals {xs : List V} {us : List Value} (r : Vals xs us) (is : List Nat) : Vals (is.filterMap (xs[·]?)) (is.filterMap (us[·]?)) := by
  induction is with
  | nil => exact .nil
  | cons i is ih =>
    rw [List.filterMap_cons, List.filterMap_cons]
    cases e : xs[i]? with
    | none =>
      rw [Vals.none_of r e]
      exact ih
    | some x =>
      obtain ⟨u, hu, ru⟩ := r.get e
      rw [hu]
      exact .cons ru ih
theorem pick_slice {xs : List V} {us : List Value} (r : Vals xs us) (lo hi st : Option Int) : ∃ ws : List Value, slicePick us.toArray lo hi st = ws.toArray ∧ Vals (pickV xs lo hi st) ws := by
  refine ⟨_, rfl, ?_⟩
  have l := r.length
  unfold pickV
  rw [l, ← List.size_toArray]
  have e : ((us.toArray[·]?) : Nat → Option Value) = (us[·]?) := by funext i; simp
  rw [e]
  exact pick_vals r _
section
variable {X : Cx}
def tStep (K : PySem.W.Frag) (st : Int) (te : TE) (tl th : L2.TO) : TE := fun σ H Q => te σ H fun x H1 => tl σ H1 fun lo H2 => th σ H2 fun hi H3 => ∃ a xs, x = .ref a ∧ SqL K H3 a xs ∧ (pickV xs lo hi (some st)).length ≤ sizeLine ∧ ∀ p, H3 p = none → Q (.ref p) (upd H3 p (.lst (pickV xs lo hi (some st))))
theorem pe_stepL {e : Expr} {te : TE} {tl th : L2.TO} {lo hi : Option Expr} {st : Int} {k : Nat} {p1 p2 pos : Pos} (he : PE X e te) (hl : PO X lo tl) (hh : PO X hi th) (h0 : (some st : Option Int) ≠ some 0) :
    PE X (.Subscript e (.Slice lo hi (some (.Constant (.int st) k p1)) p2) pos) (tStep X.K st te tl th) := by
  refine ⟨fun pins s σ H Q I h => ?_⟩
  refine Subscript_ (thn (he.run pins s σ H _ I h) fun v s1 ⟨x, H1, I1, r1, q1⟩ => ?_)
  have hst : PO X (some (.Constant (.int st) k p1)) (tPart (tC (.int st))) := po_some pe_int
  refine wpAny_Slice (thn (hl.run pins s1 σ H1 _ I1 q1) fun vl s2 ⟨l, H2, I2, pl, q2⟩ => ?_)
  refine thn (hh.run pins s2 σ H2 _ I2 q2) fun vu s3 ⟨u, H3, I3, pu, q3⟩ => ?_
  obtain ⟨a, xs, ex, hx, hln, q⟩ := q3
  subst ex
  cases r1
  refine thn (hst.run pins s3 σ H3 (fun o H4 => o = some st ∧ H4 = H3) I3 ⟨st, rfl, rfl, rfl⟩) fun vs s4 ⟨o, H4, I4, ps, eo, e4⟩ => ?_
  subst eo e4
  have I5 : L2.Inv X pins σ H4 { s4 with heap := s4.heap.push { cls := .type "slice", data := .fields #[vl, vu, vs] } } := I4.kept (t' := s4.toks) fun b ob q => Heap.get?_push_of_some _ q
  obtain ⟨its, r, ht, hz⟩ := I5.list hx
  have hlen := r.length
  show wpAny (model X.prog X.w) X.A (subscriptTail e (.Slice lo hi (some (.Constant (.int st) k p1)) p2) (.ref a) (.ref s4.heap.objs.size)) (EP X pins σ Q) X.xe { s4 with heap := s4.heap.push { cls := .type "slice", data := .fields #[vl, vu, vs] } }
  refine tail_any (ops := [.ref a, .ref s4.heap.objs.size]) ht.isList.typeIs (PySem.slot_list_getitem.lookup) ?_ (by with_unfolding_all rfl)
  refine wpAny_getItem_list_slice ht.isList (Heap.IsSliceOf.new _ vl vu vs) pl pu ps h0 ?_ (by rw [List.size_toArray]; omega)
  obtain ⟨ws, ew, rw'⟩ := pick_slice r l u (some st)
  rw [ew]
  refine ⟨.ref _, _, I5.laid (t' := s4.toks) (o := .lst (pickV xs l u (some st))) (fun b ob q => Heap.get?_push_of_some _ q) (Nat.le_refl _) ?_, rfl, q _ (I5.hok.fresh (Nat.le_refl _))⟩
  exact ⟨hln, ws, 0, rw', Heap.get?_push_size _ rfl⟩
end
/-- every second one -/
def evens {α : Type} : List α → List α
  | [] => []
  | [x] => [x]
  | x :: _ :: r => x :: evens r
def odds2 {α : Type} : List α → List α
  | [] => []
  | [_] => []
  | _ :: y :: r => y :: odds2 r
theorem evens_len {α : Type} : ∀ xs : List α, (evens xs).length = (xs.length + 1) / 2
  | [] => by simp [evens]
  | [x] => by simp [evens]
  | x :: y :: r => by
    rw [evens, List.length_cons, evens_len r, List.length_cons, List.length_cons]
    omega
theorem odds_len {α : Type} : ∀ xs : List α, (odds2 xs).length = xs.length / 2
  | [] => by simp [odds2]
  | [x] => by simp [odds2]
  | x :: y :: r => by
    rw [odds2, List.length_cons, odds_len r, List.length_cons, List.length_cons]
    omega
theorem evens_get {α : Type} : ∀ (xs : List α) (i : Nat), (evens xs)[i]? = xs[2 * i]?
  | [], i => by simp [evens]
  | [x], 0 => rfl
  | [x], i + 1 => by simp [evens]
  | x :: y :: r, 0 => rfl
  | x :: y :: r, i + 1 => by
    rw [evens, List.getElem?_cons_succ, evens_get r i, show 2 * (i + 1) = 2 * i + 1 + 1 by omega, List.getElem?_cons_succ, List.getElem?_cons_succ]
theorem odds_get {α : Type} : ∀ (xs : List α) (i : Nat), (odds2 xs)[i]? = xs[2 * i + 1]?
  | [], i => by simp [odds2]
  | [x], i => by simp [odds2]
  | x :: y :: r, 0 => rfl
  | x :: y :: r, i + 1 => by
    rw [odds2, List.getElem?_cons_succ, odds_get r i, show 2 * (i + 1) + 1 = 2 * i + 1 + 1 + 1 by omega, List.getElem?_cons_succ, List.getElem?_cons_succ]
theorem pick_get {α : Type} {xs : List α} {f : Nat → Nat} : ∀ {n : Nat}, (∀ i, i < n → f i < xs.length) → ((List.range n).map f).filterMap (xs[·]?) = (List.range n).filterMap fun i => xs[f i]? := fun {n} _ => by
  rw [List.filterMap_map]
  rfl
theorem fm_all {α : Type} : ∀ (n : Nat) (ys : List α), ys.length = n → (List.range n).filterMap (fun i => ys[i]?) = ys := by
  intro n
  induction n with
  | zero => intro ys h; rw [List.eq_nil_of_length_eq_zero h]; rfl
  | succ n ih =>
    intro ys h
    rw [List.range_succ, List.filterMap_append]
    have e1 : (List.range n).filterMap (fun i => ys[i]?) = (List.range n).filterMap fun i => (ys.take n)[i]? := filterMap_same fun i hi => by
      rw [List.getElem?_take_of_lt (List.mem_range.mp hi)]
    have hn : n < ys.length := by omega
    rw [e1, ih (ys.take n) (by rw [List.length_take]; omega), List.filterMap_cons, List.getElem?_eq_getElem hn, List.filterMap_nil]
    have q := List.take_append_getElem (l := ys) (i := n) hn
    show ys.take n ++ [ys[n]] = ys
    rw [q]
    exact List.take_of_length_le (by omega)
theorem fm_range {α : Type} {g : Nat → Option α} {ys : List α} {n : Nat} (hl : ys.length = n) (h : ∀ i, i < n → g i = ys[i]?) : (List.range n).filterMap g = ys := by
  rw [filterMap_same fun i hi => h i (List.mem_range.mp hi)]
  exact fm_all n ys hl
theorem pick_evens {α : Type} (xs : List α) : pickV xs none none (some 2) = evens xs := by
  unfold pickV
  have b : sliceBounds none none (some 2) xs.length = (0, (xs.length : Int), 2) := by simp [sliceBounds]
  rw [b]
  show (sliceRange 0 (xs.length : Int) 2).filterMap (xs[·]?) = _
  unfold sliceRange
  have c : (if (2 : Int) > 0 then (if (0 : Int) < (xs.length : Int) then ((xs.length : Int) - 0 + 2 - 1) / 2 else 0) else (if (0 : Int) > (xs.length : Int) then (0 - (xs.length : Int) - 2 - 1) / (-2) else 0)).toNat = (xs.length + 1) / 2 := by
    rw [if_pos (by decide)]
    split <;> omega
  simp only [c]
  rw [List.filterMap_map]
  refine fm_range (evens_len xs) fun i _ => ?_
  rw [evens_get]
  show xs[(0 + 2 * (i : Int)).toNat]? = _
  congr 1
  omega
theorem pick_odds {α : Type} (xs : List α) : pickV xs (some 1) none (some 2) = odds2 xs := by
  unfold pickV
  have b : sliceBounds (some 1) none (some 2) xs.length = (max 0 (min 1 (xs.length : Int)), (xs.length : Int), 2) := by simp [sliceBounds]
  rw [b]
  show (sliceRange (max 0 (min 1 (xs.length : Int))) (xs.length : Int) 2).filterMap (xs[·]?) = _
  by_cases h0 : xs.length = 0
  · have e : xs = [] := List.eq_nil_of_length_eq_zero h0
    subst e
    rfl
  have m : max 0 (min 1 (xs.length : Int)) = 1 := by omega
  rw [m]
  unfold sliceRange
  have c : (if (2 : Int) > 0 then (if (1 : Int) < (xs.length : Int) then ((xs.length : Int) - 1 + 2 - 1) / 2 else 0) else (if (1 : Int) > (xs.length : Int) then (1 - (xs.length : Int) - 2 - 1) / (-2) else 0)).toNat = xs.length / 2 := by
    rw [if_pos (by decide)]
    split <;> omega
  simp only [c]
  rw [List.filterMap_map]
  refine fm_range (odds_len xs) fun i _ => ?_
  rw [odds_get]
  show xs[(1 + 2 * (i : Int)).toNat]? = _
  congr 1
  omega
end Pk
end
section
set_option maxHeartbeats 1000000
/-! begins, holds_together. -/
namespace Pk
open PySem L2
abbrev sBegins : Stmt := topH 42
abbrev sTogether : Stmt := topH 43
def chainP (s0 : Say) (l : List (Say × Int)) : List PyData := .tuple [sayP s0, .none] :: l.map fun p => .tuple [sayP p.1, .int p.2]
/-- a chain by its form, of the house -/
structure ChainK (ns : List Str) (n : Nat) (s0 : Say) (l : List (Say × Int)) : Prop where
  s0 : sayingD ns (sayP s0) = true
  ss : ∀ p ∈ l, sayingD ns (sayP p.1) = true ∧ -1 ≤ p.2 ∧ p.2 < (n : Nat)
/-- the saying ahead of link i -/
def frontK (s0 : Say) (l : List (Say × Int)) : Nat → Say
  | 0 => s0
  | i + 1 => match l[i]? with
    | some p => p.1
    | none => s0
def linkB (e : Str → Int × Int) (rs : List PyData) (s0 : Say) (l : List (Say × Int)) (i : Nat) : Bool := match l[i]? with
  | some p => leadB e rs (frontK s0 l i) p.1 p.2
  | none => true
def chainB (e : Str → Int × Int) (rs : List PyData) (s0 : Say) (l : List (Say × Int)) : Bool := (List.range l.length).all (linkB e rs s0 l)
theorem sayK_sayP {ns : List Str} {s : Say} (h : sayingD ns (sayP s) = true) : SayH ns s := (sayK_of h).1
theorem chain_front {H : Hp} {xs : List V} {s0 : Say} {l : List (Say × Int)} (al : TrAll H xs (chainP s0 l)) {i : Nat} (h : i ≤ l.length) : ∃ b q v, xs[i]? = some (.ref b) ∧ H b = some (.tup [.ref q, v]) ∧ H q = some (.tup (sayV (frontK s0 l i))) := by
  have xl := al.length
  have cl : (chainP s0 l).length = l.length + 1 := by
    show (l.map _).length + 1 = _
    rw [List.length_map]
  have hx : xs[i]? = some xs[i] := List.getElem?_eq_getElem (by omega)
  obtain ⟨d, hd, t⟩ := al.get hx
  have go : ∀ (s : Say) (u : PyData), d = .tuple [sayP s, u] → ∃ b q v, xs[i] = .ref b ∧ H b = some (.tup [.ref q, v]) ∧ H q = some (.tup (sayV s)) := fun s u e => by
    rw [e] at t
    generalize xs[i] = y at t
    cases t with
    | @tup b ys _ hb alb =>
    match ys, alb with
    | [_, _], .cons ta (.cons _ .nil) =>
    obtain ⟨q, rfl, hq⟩ := say_tr ta
    exact ⟨b, q, _, rfl, hb, hq⟩
  rw [hx]
  cases i with
  | zero =>
    cases hd
    obtain ⟨b, q, v, e1, e2, e3⟩ := go s0 .none rfl
    exact ⟨b, q, v, by rw [e1], e2, e3⟩
  | succ j =>
    have hd : (l.map fun p => PyData.tuple [sayP p.1, .int p.2])[j]? = some d := hd
    rw [List.getElem?_map] at hd
    obtain ⟨p, hp, rfl⟩ := Option.map_eq_some_iff.mp hd
    obtain ⟨b, q, v, e1, e2, e3⟩ := go p.1 (.int p.2) rfl
    refine ⟨b, q, v, by rw [e1], e2, ?_⟩
    show H q = some (.tup (sayV (match l[j]? with | some p => p.1 | none => s0)))
    rw [hp]
    exact e3
theorem chain_link {H : Hp} {xs : List V} {s0 : Say} {l : List (Say × Int)} (al : TrAll H xs (chainP s0 l)) {i : Nat} {p : Say × Int} (h : l[i]? = some p) : ∃ y, xs[i + 1]? = some y ∧ Tr H y (.tuple [sayP p.1, .int p.2]) := by
  have xl := al.length
  have cl : (chainP s0 l).length = l.length + 1 := by
    show (l.map _).length + 1 = _
    rw [List.length_map]
  have il := (List.getElem?_eq_some_iff.mp h).1
  have hx : xs[i + 1]? = some xs[i + 1] := List.getElem?_eq_getElem (by omega)
  obtain ⟨d, hd, t⟩ := al.get hx
  have hd : (l.map fun p => PyData.tuple [sayP p.1, .int p.2])[i]? = some d := hd
  rw [List.getElem?_map, h] at hd
  cases hd
  exact ⟨_, hx, t⟩
theorem front_ok {ns : List Str} {n : Nat} {s0 : Say} {l : List (Say × Int)} (hc : ChainK ns n s0 l) : ∀ i, SayH ns (frontK s0 l i)
  | 0 => sayK_sayP hc.s0
  | i + 1 => by
    show SayH ns (match l[i]? with | some p => p.1 | none => s0)
    cases h : l[i]? with
    | none => exact sayK_sayP hc.s0
    | some p => exact sayK_sayP (hc.ss p (List.mem_of_getElem? h)).1
theorem LS.grs {Ps : List Addr} {C : Addr} {H H' : Hp} {lx nl dl rb sp : Addr} {ds rs : List PyData} (h : LS C H lx nl dl rb sp ds rs) (t : Tabs Ps H) (s : GrS Ps H H') : LS C H' lx nl dl rb sp ds rs := by
  obtain ⟨⟨⟨dx, fs, h1, h2⟩, h3, ⟨kvs, k1, k2⟩, h5, ⟨kws, j1, j2⟩⟩, g⟩ := h
  refine ⟨⟨⟨dx, fs, s.at t h1 (by intro q z; cases z), h2⟩, s.at t h3 (by intro q z; cases z), ⟨kvs, s.at t k1 (by intro q z; cases z), fun d hd => ?_⟩, h5.grs t s, ⟨kws, s.at t j1 (by intro q z; cases z), fun z hz => ?_⟩⟩, g⟩
  · obtain ⟨v, a, b⟩ := k2 d hd
    exact ⟨v, a, b.grs t s⟩
  · obtain ⟨l, ys, qs, a1, a2, a3, a4⟩ := j2 z hz
    exact ⟨l, ys, qs, a1, s.at t a2 (by intro q z; cases z), a3.grs t s, a4⟩
def spBegins (C : Addr) : Sp := fun vs H Q _ => ∃ (lx nl dl rb sp : Addr) (x : V) (ds rs : List PyData) (s : Say), vs = [.ref lx, x] ∧ LS C H lx nl dl rb sp ds rs ∧ Tr H x (.tuple [sayP s, .none]) ∧ sayingD (ds.map nameOf) (sayP s) = true ∧ Q (.bl true) H
def spTogether (C : Addr) (Ps : List Addr) : Sp := fun vs H Q _ => ∃ (lx nl dl rb sp L : Addr) (ds rs : List PyData) (s0 : Say) (l : List (Say × Int)), vs = [.ref lx, .ref L] ∧ LS C H lx nl dl rb sp ds rs ∧ Tr H (.ref L) (.list (chainP s0 l)) ∧ ChainK (ds.map nameOf) rs.length s0 l ∧ l.length ≤ 1000 ∧ Tabs Ps H ∧
  ∀ H', GrS Ps H H' → Q (.bl (chainB (endsOf ds) rs s0 l)) H'
section
variable {P : Program} {w : World} {K : PySem.W.Frag} {mg : Str → Option Value} {base : Heap} {Ps : List Addr} {P3 : Addr}
theorem scBegins : FnScope ["layout", "link"] ["layout", "link"] (defScope sBegins) := ⟨rfl, rfl, rfl, by decide +kernel, rfl, by decide +kernel, by decide +kernel⟩
theorem ok_begins {f g2 g3 C : Addr} {fd d2 d3 : FuncData} (F : Fun K "begins" "begins" sBegins f fd) (T : LayTxt K mg C) (G2 : FnOk P w K mg base CX0 1 g2 d2 ["thing", "least", "most"] spTupOf) (b2 : Binds K d2 ["thing", "least", "most"] []) (k2 : PySem.W.keepIn K (.ref g2) = true) (m2 : mg "is_tuple_of" = some (.ref g2))
    (G3 : FnOk P w K mg base CX0 2 g3 d3 ["names", "thing"] spIsSaying) (b3 : Binds K d3 ["names", "thing"] []) (k3 : PySem.W.keepIn K (.ref g3) = true) (m3 : mg "is_saying" = some (.ref g3)) :
    FnOk P w K mg base CX0 3 f fd ["layout", "link"] (spBegins C) := by
  refine F.ok scBegins (fun vs H Q E h => ?_) (fun cdv A outer s H vs Q E hr h => ?_)
  · obtain ⟨lx, nl, dl, rb, sp, x, ds, rs, s, rfl, _⟩ := h
    rfl
  obtain ⟨lx, nl, dl, rb, sp, x, ds, rs, z, rfl, ls, t, hs, k⟩ := h
  have hr1 : Room 1 _ := hr.mono (by decide)
  refine ⟨_, pss_one (ps_ret (pe_and (pe_call G2 hr1 rfl m2 k2 b2 .nil pass0 (pa_cons (pv 1) (pa_cons pe_int (pa_cons pe_int pa_nil)))) (pe_and (pe_cmpR op_isN (pe_ix ix_tup (pv 1) pe_int (fun _ _ => rfl)) pe_non (nomark _)) (pe_one (pe_call G3 hr rfl m3 k3 b3 .nil pass0 (pa_cons (pe_fld (pv 0) rfl) (pa_cons (pe_ix ix_tup (pv 1) pe_int (fun _ _ => rfl)) pa_nil))))))), ?_⟩
  refine ⟨_, rfl, x, _, 2, 2, rfl, t, _, rfl, ?_⟩
  cases t with
  | @tup p ys _ hp al =>
  match ys, al with
  | [u, _], .cons t1 (.cons .non .nil) =>
  obtain ⟨dx, fs, l1, l2, l3⟩ := ls.L.ob
  refine iteT ⟨_, rfl, p, _, _, _, rfl, rfl, SqT.of hp, (rfl : atI [u, V.non] 1 = some V.non), rfl, _, rfl, iteT ?_⟩
  refine ⟨_, rfl, lx, C, dx, fs, _, rfl, l1, T.cl, T.nN, l2, _, rfl, p, _, _, _, rfl, rfl, SqT.of hp, (rfl : atI [u, V.non] 0 = some u), nl, _, u, _, rfl, ls.L.nm, t1, ?_⟩
  rw [hs]
  exact k
abbrev nTog : List Str := ["layout", "thing"]
theorem scTog : FnScope nTog ["layout", "thing"] (defScope sTogether) := ⟨rfl, rfl, rfl, by decide +kernel, rfl, by decide +kernel, by decide +kernel⟩
def scGenT : Scope := { kind := .function, names := [(".0", .local), ("k", .local), ("layout", .free), ("thing", .free), ("leads_on", .globalImplicit)], isGenerator := true, isCoroutine := false }
theorem ndTog : ((["k"] : List Str) ++ nTog).Nodup := by decide +kernel
theorem goTog : GenO nTog (defScope sTogether) scGenT ["k"] := ⟨rfl, rfl, by decide +kernel, rfl, by decide +kernel, by decide +kernel⟩
theorem ok_together {f c g1 g2 C : Addr} {d1 d2 : FuncData} {oc : Value} {od an : Option Addr} {osl : Array (Option Value)} {kV doc pm ct : Value} (h3 : P3 ∈ Ps) (lk : K.lookup f = some ⟨oc, od, .func (PySem.W.fnOf "holds_together" "holds_together" (defArgs sTogether) (defBody sTogether) (defScope sTogether) .none kV doc pm an (.ref c) ct), osl⟩) (hcd : PySem.W.codeIn K (.ref c) "holds_together" = true)
    (TB : GxR.TabB base mg c P3) (B : Blt mg) (mAll : mg "all" = none) (mLC : ∃ t, mg "LONGEST_CHAIN" = some (.int 2000 t))
    (G1 : FnOk P w K mg base CX0 3 g1 d1 ["layout", "link"] (spBegins C)) (b1 : Binds K d1 ["layout", "link"] []) (k1 : PySem.W.keepIn K (.ref g1) = true) (m1 : mg "begins" = some (.ref g1))
    (G2 : FnOk P w K mg base CX0 5 g2 d2 ["layout", "saying", "link"] (spLeads C)) (b2 : Binds K d2 ["layout", "saying", "link"] []) (k2 : PySem.W.keepIn K (.ref g2) = true) (m2 : mg "leads_on" = some (.ref g2)) :
    FnOk P w K mg base CX0 8 f (PySem.W.fnOf "holds_together" "holds_together" (defArgs sTogether) (defBody sTogether) (defScope sTogether) .none kV doc pm an (.ref c) ct) ["layout", "thing"] (spTogether C Ps) := by
  refine fn_of lk hcd scTog (fun vs H Q E h => ?_) (fun A outer s H vs Q E hr h => ?_)
  · obtain ⟨lx, nl, dl, rb, sp, L, ds, rs, s0, l, rfl, _⟩ := h
    rfl
  obtain ⟨lx, nl, dl, rb, sp, L, ds, rs, s0, l, rfl, ls, tL, hc, hl, tb, k⟩ := h
  obtain ⟨tl0, hlc⟩ := mLC
  have hr3 : Room 3 _ := hr.mono (by decide)
  have hr7 : Room (5 + 2) _ := hr
  refine ⟨_, PSs.nox (pss_cons (ps_if (PW.pt (pw_or (pt_not (pt_val (pe_callB call_isT (by rfl) B.isinstance (by decide +kernel) (pa_cons (pv 1) (pa_cons (pe_bltn (v := .ty "list") (by rfl) B.list (by decide +kernel) rfl) pa_nil))))) (pw_or1 (pt_not (pt_chain op_le op_le pe_int (pe_callB call_len_seq (by rfl) B.len PySem.boot_len (pa_cons (pv 1) pa_nil)) (pe_glob (v := .int 2000) (by rfl) hlc ⟨_, rfl⟩)))))) (pss_one (ps_ret pe_bl)) pss_nil) <|
    pss_cons (ps_if (pt_not (pt_val (pe_call G1 hr3 rfl m1 k1 b1 .nil pass0 (pa_cons (pv 0) (pa_cons (pe_ix ix_list (pv 1) pe_int (fun _ _ => rfl)) pa_nil))))) (pss_one (ps_ret pe_bl)) pss_nil) <|
    pss_one (ps_ret (pe_allG (own := ["k"]) (k := 5) hr7 (by rfl) mAll TB rfl goTog (pi_range2 (by rfl) B.range (pa_cons pe_int (pa_cons (pe_callB call_len_seq (by rfl) B.len PySem.boot_len (pa_cons (pv 1) pa_nil)) pa_nil)))
      (fun A' s' H' C' code fp pn _ => pg_name (i := 0) ndTog rfl (.inl rfl))
      (fun A' s' H' C' code fp pn hr' => pe_call G2 hr' rfl m2 k2 b2 .nil pass0 (pa_cons (pv 1) (pa_cons (pe_ix (r := rIxT K) ix_tup (pe_ix (r := rIxL K) ix_list (pv 2) (pe_op op_sub (pv 0) pe_int) (fun _ _ => rfl)) pe_int (fun _ _ => rfl)) (pa_cons (pe_ix (r := rIxL K) ix_list (pv 2) (pv 0) (fun _ _ => rfl)) pa_nil)))) (fun _ => rfl)))), ?_⟩
  have sl := sizeLine_eq
  obtain ⟨xs, ha, al⟩ : ∃ xs, H L = some (.lst xs) ∧ TrAll H xs (chainP s0 l) := by
    cases tL with
    | lst h a => exact ⟨_, h, a⟩
  have xl : xs.length = l.length + 1 := by
    rw [al.length]
    show (l.map _).length + 1 = _
    rw [List.length_map]
  refine ⟨_, rfl, _, "list", .list (chainP s0 l), isLst, rfl, kL, .lst ha al, _, rfl, iteF ?_⟩
  refine ⟨_, rfl, L, _, rfl, .inl (SqL.of ha), _, _, rfl, rfl, _, rfl, ?_⟩
  rw [decide_eq_true (show (1 : Int) ≤ ((xs.length : Nat) : Int) by omega)]
  refine iteT ⟨_, _, rfl, rfl, _, rfl, ?_⟩
  rw [decide_eq_true (show ((xs.length : Nat) : Int) ≤ 2000 by omega)]
  have hx0 : xs[0]? = some xs[0] := List.getElem?_eq_getElem (by omega)
  obtain ⟨d0, hd0, t0⟩ := al.get hx0
  cases hd0
  refine iteF ⟨_, rfl, _, rfl, L, _, _, _, rfl, rfl, SqL.of ha, atI_nat (xs := xs) (j := 0) (v := xs[0]) hx0, lx, nl, dl, rb, sp, xs[0], ds, rs, s0, rfl, ls, t0, hc.s0, _, rfl, iteF ?_⟩
  refine ⟨_, rfl, L, _, rfl, .inl (SqL.of ha), 1, _, rfl, ⟨by decide, by decide, by omega, by omega⟩, tb _ h3, fun H1 tb1 => ?_⟩
  have g1 := GrS.of h3 tb (Gr.of tb1)
  rw [show ((xs.length : Nat) : Int) - 1 = ((l.length : Nat) : Int) by omega, Int.toNat_natCast]
  refine qu_it (walk_range (n := l.length)) (fun i H2 => GrS Ps H H2 ∧ (List.range i).all (linkB (endsOf ds) rs s0 l) = true) ⟨g1, rfl⟩ (fun i H2 _ _ => trivial) ?_ ?_
  · rintro i y H2 H3 hi ⟨g2, hall⟩ ⟨rfl, hy⟩
    have hy : y = .int (1 + (i : Nat)) := hy
    subst hy
    have hp : l[i]? = some l[i] := List.getElem?_eq_getElem hi
    generalize l[i] = p at hp
    obtain ⟨b, q, v, hx, hb, hq⟩ := chain_front al (i := i) (by omega)
    obtain ⟨y', hx', t'⟩ := chain_link al hp
    have ha3 := g2.at tb ha (by intro q z; cases z)
    have hb3 := g2.at tb hb (by intro q z; cases z)
    have hq3 := g2.at tb hq (by intro q z; cases z)
    have i1 : atI xs (1 + ((i : Nat) : Int) - 1) = some (.ref b) := by
      rw [show (1 + ((i : Nat) : Int) - 1) = ((i : Nat) : Int) by omega]
      exact atI_nat hx
    have i2 : atI xs (1 + ((i : Nat) : Int)) = some y' := by
      rw [show (1 + ((i : Nat) : Int)) = ((i + 1 : Nat) : Int) by omega]
      exact atI_nat hx'
    obtain ⟨c1, c2, c3⟩ := hc.ss p (List.mem_of_getElem? hp)
    refine ⟨rfl, _, rfl, _, rfl, _, rfl, _, _, rfl, rfl, L, _, _, _, rfl, rfl, SqL.of ha3, i1, b, _, _, _, rfl, rfl, SqT.of hb3, rfl, _, rfl, _, rfl, L, _, _, _, rfl, rfl, SqL.of ha3, i2, lx, nl, dl, rb, sp, q, y', ds, rs, frontK s0 l i, p.1, p.2, rfl, ls.grs tb g2, hq3, front_ok hc i, t'.grs tb g2, c1, c2, c3, fun H4 s4 => ⟨_, rfl, fun e => ?_, fun e => ⟨g2.trans (GrS.same g2.1 s4), ?_⟩⟩⟩
    · have q := k H4 (g2.trans (GrS.same g2.1 s4))
      have : chainB (endsOf ds) rs s0 l = false := by
        unfold chainB
        rw [List.all_eq_false]
        refine ⟨i, List.mem_range.mpr hi, ?_⟩
        unfold linkB
        rw [hp]
        show ¬ leadB (endsOf ds) rs (frontK s0 l i) p.1 p.2 = true
        rw [e]
        exact Bool.false_ne_true
      rw [this] at q
      exact q
    · rw [List.range_succ, List.all_append, hall, List.all_cons, List.all_nil, Bool.and_true, Bool.true_and]
      unfold linkB
      rw [hp]
      exact Bool.of_not_eq_false e
  · rintro H2 ⟨g2, hall⟩
    have q := k H2 g2
    unfold chainB at q
    rw [hall] at q
    exact q
end
end Pk
end
section
set_option maxHeartbeats 1000000
/-! check_house of a good house, is_chain. -/
namespace Pk
open PySem L2
abbrev sIsChain : Stmt := topH 44
/-- a house at h -/
structure HouseAt (H : Hp) (h : Addr) (ds rs : List PyData) : Prop where
  tr : Tr H (.ref h) (.tuple [.tuple ds, .tuple rs])
  hg : HouseG ds rs
theorem HouseAt.grs {Ps : List Addr} {H H' : Hp} {h : Addr} {ds rs : List PyData} (a : HouseAt H h ds rs) (t : Tabs Ps H) (g : GrS Ps H H') : HouseAt H' h ds rs := ⟨a.tr.grs t g, a.hg⟩
theorem house_lv {ds rs : List PyData} (hg : HouseG ds rs) : lv 0 (.tuple [.tuple ds, .tuple rs]) = true ∧ (PyData.tuple [.tuple ds, .tuple rs]).bulk ≤ 6000 ∧ (PyData.tuple [.tuple ds, .tuple rs]).depth ≤ 4 := by
  have a1 : lvs 0 ds = true := lvs_all fun d hd => (dial_lv (hg.dials d hd)).1
  have b1 : lvs 0 rs = true := lvs_all fun d hd => (hg.rules d hd).lv
  have a3 : PyData.depthAll ds ≤ 1 := depth_all fun d hd => (dial_lv (hg.dials d hd)).2.2
  have b3 : PyData.depthAll rs ≤ 2 := depth_all fun d hd => (hg.rules d hd).depth
  refine ⟨by rw [lv, lvs, lvs, lvs, lv, lv, a1, b1]; rfl, ?_, ?_⟩
  · have q1 := bulk_all (n := 80) fun d hd => (dial_lv (hg.dials d hd)).2.1
    have q2 := bulk_all (n := 120) fun r hr => (hg.rules r hr).bulk
    have l1 : (80 + 1) * ds.length ≤ 81 * 12 := Nat.mul_le_mul_left _ hg.d2
    have l2 : (120 + 1) * rs.length ≤ 121 * 40 := Nat.mul_le_mul_left _ hg.r2
    simp only [PyData.bulk, PyData.bulkAll]
    omega
  · simp only [PyData.depth, PyData.depthAll]
    omega
theorem house_okS {ds rs : List PyData} (hg : HouseG ds rs) : okS (.tuple [.tuple ds, .tuple rs]) = true := by
  obtain ⟨h1, h2, _⟩ := house_lv hg
  exact (lv_ok (by omega) h1 (by omega)).1
def spCheckH (Ps : List Addr) : Sp := fun vs H Q _ => ∃ (h : Addr) (ds rs : List PyData), vs = [.ref h] ∧ HouseAt H h ds rs ∧ Tabs Ps H ∧ ∀ H', GrS Ps H H' → Q .non H'
def spIsChain (Ps : List Addr) : Sp := fun vs H Q _ => ∃ (h L : Addr) (ds rs : List PyData) (s0 : Say) (l : List (Say × Int)), vs = [.ref h, .ref L] ∧ HouseAt H h ds rs ∧ Tr H (.ref L) (.list (chainP s0 l)) ∧ ChainK (ds.map nameOf) rs.length s0 l ∧ l.length ≤ 1000 ∧ Tabs Ps H ∧
  ∀ H', GrS Ps H H' → Q (.bl (chainB (endsOf ds) rs s0 l)) H'
section
variable {P : Program} {w : World} {K : PySem.W.Frag} {mg : Str → Option Value} {base : Heap} {Ps : List Addr} {P1 P2 : Addr}
theorem scCheckH : FnScope ["house", "fault"] ["house"] (defScope sCheckH) := ⟨rfl, rfl, rfl, by decide +kernel, rfl, by decide +kernel, by decide +kernel⟩
theorem ok_checkH {f g : Addr} {fd gd : FuncData} (h1 : P1 ∈ Ps) (F : Fun K "check_house" "check_house" sCheckH f fd) (G : FnOk P w K mg base CX0 5 g gd ["thing"] (spFault P1)) (bG : Binds K gd ["thing"] []) (kG : PySem.W.keepIn K (.ref g) = true) (mG : mg "fault_of" = some (.ref g)) :
    FnOk P w K mg base CX0 6 f fd ["house"] (spCheckH Ps) := by
  refine F.ok scCheckH (fun vs H Q E h => ?_) (fun cdv A outer s H vs Q E hr h => ?_)
  · obtain ⟨h, ds, rs, rfl, _⟩ := h
    rfl
  obtain ⟨h, ds, rs, rfl, ha, tb, k⟩ := h
  refine ⟨_, pss_cons (ps_set (i := 1) scCheckH.nd rfl (.inl rfl) (pe_call G hr rfl mG kG bG .nil pass0 (pa_cons (pv 0) pa_nil))) <|
    pss_one (ps_if (pt_cmpR op_notN (pv 1) pe_non (nomark _)) (pss_one ps_never) pss_nil), ?_⟩
  refine ⟨_, rfl, _, _, rfl, ha.tr, tb _ h1, house_okS ha.hg, fun v H1 g1 tv => ?_⟩
  rw [ha.hg.fault] at tv
  cases tv
  exact ⟨_, rfl, rfl, _, rfl, iteF (k H1 (GrS.of h1 tb g1))⟩
theorem scIsChain : FnScope ["house", "thing"] ["house", "thing"] (defScope sIsChain) := ⟨rfl, rfl, rfl, by decide +kernel, rfl, by decide +kernel, by decide +kernel⟩
theorem ok_isChain {f g1 g2 g3 C : Addr} {fd d1 d2 d3 : FuncData} (F : Fun K "is_chain" "is_chain" sIsChain f fd) (T : LayTxt K mg C) (M : Mk K C g3)
    (G1 : FnOk P w K mg base CX0 6 g1 d1 ["house"] (spCheckH Ps)) (b1 : Binds K d1 ["house"] []) (k1 : PySem.W.keepIn K (.ref g1) = true) (m1 : mg "check_house" = some (.ref g1))
    (G2 : FnOk P w K mg base CX0 8 g2 d2 ["layout", "thing"] (spTogether C Ps)) (b2 : Binds K d2 ["layout", "thing"] []) (k2 : PySem.W.keepIn K (.ref g2) = true) (m2 : mg "holds_together" = some (.ref g2))
    (G3 : FnOk P w K mg base CX0 2 g3 d3 ["self", "house"] (spInit C)) (b3 : Binds K d3 ["self", "house"] []) :
    FnOk P w K mg base CX0 9 f fd ["house", "thing"] (spIsChain Ps) := by
  refine F.ok scIsChain (fun vs H Q E h => ?_) (fun cdv A outer s H vs Q E hr h => ?_)
  · obtain ⟨h, L, ds, rs, s0, l, rfl, _⟩ := h
    rfl
  obtain ⟨h, L, ds, rs, s0, l, rfl, ha, tL, hc, hl, tb, k⟩ := h
  have hr6 : Room 6 _ := hr.mono (by decide)
  have hr3 : Room 3 _ := hr.mono (by decide)
  refine ⟨_, pss_cons (ps_expr (pe_call G1 hr6 rfl m1 k1 b1 .nil pass0 (pa_cons (pv 0) pa_nil))) <| pss_one (ps_ret (pe_call G2 hr rfl m2 k2 b2 .nil pass0 (pa_cons (pe_make M G3 hr3 rfl T.mgC b3 .nil pass0 (pa_cons (pv 0) pa_nil)) (pa_cons (pv 1) pa_nil)))), ?_⟩
  refine ⟨_, rfl, h, ds, rs, rfl, ha, tb, fun H1 g1 => ?_⟩
  have ha1 := ha.grs tb g1
  have tL1 := tL.grs tb g1
  refine ⟨_, rfl, fun lx dx nx ndx ne => ?_⟩
  have s0' : Same H1 (L2.upd (L2.upd H1 dx (.own lx)) lx (.ins C dx [])) := fun c o e => by
    rw [upd_ne (ne_of_none e nx), upd_ne (ne_of_none e ndx)]
    exact e
  refine ⟨lx, h, dx, ds, rs, rfl, upd_same, ha1.tr.same s0', ha1.hg, fun nl dl rb sp H2 LF keep => ⟨rfl, _, rfl, ?_⟩⟩
  have s2 : Same H1 H2 := fun b o e => keep b o (ne_of_none e nx) (s0' b o e)
  have g2 := g1.trans (GrS.same g1.1 s2)
  exact ⟨lx, nl, dl, rb, sp, L, ds, rs, s0, l, rfl, ⟨LF, ha.hg⟩, tL1.same s2, hc, hl, g2.1, fun H3 g3 => k H3 (g2.trans g3)⟩
end
end Pk
end
section
set_option maxHeartbeats 1000000
/-! The law's own: gives; what its denies reckons. -/
namespace Pk
open PySem L2
abbrev sLDenies : Stmt := topH 61
abbrev sLGives : Stmt := topH 62
/-- what the law reckons -/
def denyLaw (e : Str → Int × Int) (s o : Say) : Bool :=
  if (decide ((cutE (e s.1) s).2 < (cutE (e s.1) s).1) || decide ((cutE (e o.1) o).2 < (cutE (e o.1) o).1)) = true then (decide ((cutE (e s.1) s).2 < (cutE (e s.1) s).1) || decide (s.1 = o.1))
  else decide (s.1 = o.1) && decide ((if (cutE (e o.1) o).2 < (cutE (e s.1) s).2 then (cutE (e o.1) o).2 else (cutE (e s.1) s).2) < (if (cutE (e o.1) o).1 > (cutE (e s.1) s).1 then (cutE (e o.1) o).1 else (cutE (e s.1) s).1))
theorem deny_same {e : Str → Int × Int} {s o : Say} (h1 : (e s.1).1 ≤ (e s.1).2) : denyLaw e s o = denyS e s o := by
  unfold denyLaw denyS fitN
  by_cases c : s.1 = o.1
  · rw [← c]
    generalize e s.1 = q at h1 ⊢
    obtain ⟨lo, hi⟩ := q
    have h1 : lo ≤ hi := h1
    unfold cutE
    cases leastS s <;> cases leastS o <;> simp only [if_true, if_false, Bool.false_eq_true, decide_true, Bool.true_and, Bool.or_true, Bool.and_true] <;>
    · rw [Bool.eq_iff_iff]
      simp only [Bool.or_eq_true, decide_eq_true_eq]
      constructor
      · intro h
        by_cases x : hi < s.2.2 <;> by_cases y : s.2.2 < lo <;> first | (exact .inl (by assumption)) | (refine .inr ?_; revert h; repeat' split) <;> simp <;> omega
      · intro h
        revert h
        repeat' split
        all_goals (intro h; simp at * <;> omega)
  · rw [decide_eq_false c]
    generalize e s.1 = q at h1 ⊢
    generalize e o.1 = r
    obtain ⟨lo, hi⟩ := q
    have h1 : lo ≤ hi := h1
    simp only [Bool.false_and, Bool.or_false]
    generalize cutE r o = f
    unfold cutE
    cases leastS s
    · simp only [if_false, Bool.false_eq_true]
      rw [Bool.eq_iff_iff]
      by_cases x : s.2.2 < lo
      · have y : s.2.2 < hi := by omega
        simp [x, y]
      · by_cases y : s.2.2 < hi
        · simp [x, y]
        · simp [x, y, h1]
    · simp only [if_true]
      rw [Bool.eq_iff_iff]
      by_cases x : hi < s.2.2
      · have y : s.2.2 > lo := by omega
        simp [x, y]
      · by_cases y : s.2.2 > lo
        · simp [x, y]
        · simp [x, y, h1]
section
variable {P : Program} {w : World} {K : PySem.W.Frag} {mg : Str → Option Value} {base : Heap}
theorem scLGives : FnScope ["_law_saying_here", "_law_other"] ["_law_saying_here", "_law_other"] (defScope sLGives) := ⟨rfl, rfl, rfl, by decide +kernel, rfl, by decide +kernel, by decide +kernel⟩
theorem ok_lgives {f : Addr} {fd : FuncData} (F : Fun K "_law_gives" "_law_gives" sLGives f fd) : FnOk P w K mg base CX0 1 f fd ["_law_saying_here", "_law_other"] spGives := by
  refine F.ok scLGives (fun vs H Q E h => ?_) (fun cdv A outer s H vs Q E hr h => ?_)
  · obtain ⟨a, b, s, o, rfl, _⟩ := h
    rfl
  obtain ⟨a, b, y, o, rfl, ha, hb, s1, s2, s3, s4, k⟩ := h
  have h64 : (A.deeper (PyProof.Rows.envOfC "_law_gives" (defScope sLGives) s.heap.objs.size f cdv)).units + 64 < cLine := by
    have := hr.un
    omega
  refine ⟨_, pss_cons (ps_if (pt_cmpR (op_neD h64) (pe_slice sl_tup (pv 0) po_none (po_some pe_int)) (pe_slice sl_tup (pv 1) po_none (po_some pe_int)) (nomark _)) (pss_one (ps_ret pe_bl)) pss_nil) <|
    pss_one (ps_ret (pe_ifExp (pt_cmpR op_eq (pe_ix ix_tup (pv 0) pe_int (fun _ _ => rfl)) pe_str (nomark _)) (pe_cmpR op_ge (pe_ix ix_tup (pv 0) pe_int (fun _ _ => rfl)) (pe_ix ix_tup (pv 1) pe_int (fun _ _ => rfl)) (nomark _)) (pe_cmpR op_le (pe_ix ix_tup (pv 0) pe_int (fun _ _ => rfl)) (pe_ix ix_tup (pv 1) pe_int (fun _ _ => rfl)) (nomark _)))), ?_⟩
  refine ⟨_, rfl, 2, rfl, a, _, rfl, SqT.of ha, fun z' => absurd z'.2 (show ¬ HT.sIx 3 3 (some 2) = 3 by decide), fun p hp => ?_⟩
  rw [show cutV (sayV y) none (some 2) = [V.str y.1, V.str y.2.1] from rfl]
  have z1 := sameNew hp (.tup [V.str y.1, V.str y.2.1])
  refine ⟨_, rfl, 2, rfl, b, _, rfl, SqT.of (z1 _ _ hb), fun z' => absurd z'.2 (show ¬ HT.sIx 3 3 (some 2) = 3 by decide), fun r hr' => ?_⟩
  rw [show cutV (sayV o) none (some 2) = [V.str o.1, V.str o.2.1] from rfl]
  have z2 := sameNew hr' (.tup [V.str o.1, V.str o.2.1])
  have z12 := z1.trans z2
  refine ⟨_, _, Tr.dp (.tup (z2 _ _ upd_same) (.cons (.str _) (.cons (.str _) .nil))) rfl, Tr.dp (.tup upd_same (.cons (.str _) (.cons (.str _) .nil))) rfl, pair_shaped s1 s2, pair_shaped s3 s4, _, rfl, ?_⟩
  rw [eqv_pair]
  unfold giveS at k
  have k := k _ z12
  cases c1 : decide (y.1 = o.1) with
  | false =>
    rw [c1] at k
    exact iteT k
  | true =>
    cases c2 : decide (y.2.1 = o.2.1) with
    | false =>
      rw [c1, c2] at k
      exact iteT k
    | true =>
      rw [c1, c2, Bool.true_and, Bool.true_and] at k
      refine iteF ⟨_, rfl, a, _, _, _, rfl, rfl, SqT.of (z12 _ _ ha), (rfl : atI (sayV y) 1 = some (V.str y.2.1)), rfl, _, rfl, ?_⟩
      rw [dec_least]
      cases c3 : leastS y with
      | true =>
        rw [c3, if_pos rfl] at k
        exact iteT ⟨_, rfl, a, _, _, _, rfl, rfl, SqT.of (z12 _ _ ha), (rfl : atI (sayV y) 2 = some (V.int y.2.2)), _, rfl, b, _, _, _, rfl, rfl, SqT.of (z12 _ _ hb), (rfl : atI (sayV o) 2 = some (V.int o.2.2)), _, _, rfl, rfl, k⟩
      | false =>
        rw [c3, if_neg Bool.false_ne_true] at k
        exact iteF ⟨_, rfl, a, _, _, _, rfl, rfl, SqT.of (z12 _ _ ha), (rfl : atI (sayV y) 2 = some (V.int y.2.2)), _, rfl, b, _, _, _, rfl, rfl, SqT.of (z12 _ _ hb), (rfl : atI (sayV o) 2 = some (V.int o.2.2)), _, _, rfl, rfl, k⟩
end
end Pk
end
section
set_option maxHeartbeats 1000000
/-! The law's own: denies. -/
namespace Pk
open PySem L2
/-- a dial's ends, by its name -/
def EndAt (H : Hp) (kv : Key × V) (d : PyData) : Prop := kv.1 = Sum.inr (nameOf d) ∧ ∃ e, kv.2 = .ref e ∧ H e = some (.tup [V.int (endsD d).1, V.int (endsD d).2])
theorem EndAt.same {H H' : Hp} {kv : Key × V} {d : PyData} (h : EndAt H kv d) (s : Same H H') : EndAt H' kv d := let ⟨a, e, b, c⟩ := h; ⟨a, e, b, s _ _ c⟩
theorem endsOf_cons {d : PyData} {ds : List PyData} {z : Str} : endsOf (d :: ds) z = if nameOf d = z then endsD d else endsOf ds z := by
  unfold endsOf
  rw [List.find?_cons]
  by_cases c : nameOf d = z
  · rw [if_pos c, c]
    simp
  · rw [if_neg c]
    have : (nameOf d == z) = false := by simpa using c
    rw [this]
theorem val_ends {H : Hp} : ∀ {kvs : List (Key × V)} {ds : List PyData} {z : Str}, Paired (EndAt H) kvs ds → z ∈ ds.map nameOf → ∃ e, valV kvs (Sum.inr z) = some (.ref e) ∧ H e = some (.tup [V.int (endsOf ds z).1, V.int (endsOf ds z).2])
  | _, _, z, .nil, h => by cases h
  | kv :: kvs, d :: ds, z, .cons r t, h => by
    obtain ⟨r1, e, r2, r3⟩ := r
    rw [endsOf_cons]
    by_cases c : nameOf d = z
    · rw [if_pos c]
      refine ⟨e, ?_, r3⟩
      rw [valV_pos (by rw [r1, c]), r2]
    · rw [if_neg c]
      rw [valV_neg (by rw [r1]; intro q; exact c (Sum.inr.inj q))]
      exact val_ends t (by rcases List.mem_cons.mp h with q | q; exact absurd q.symm c; exact q)
theorem ends_kvs {H : Hp} : ∀ {ps : List Addr} {ds : List PyData}, Paired (fun p d => ∃ e, H p = some (.tup [V.str (nameOf d), V.ref e]) ∧ H e = some (.tup [V.int (endsD d).1, V.int (endsD d).2])) ps ds →
    ∃ kvs : List (Key × V), Paired (fun p kv => H p = some (.tup [kV kv.1, kv.2])) ps kvs ∧ Paired (EndAt H) kvs ds
  | _, _, .nil => ⟨[], .nil, .nil⟩
  | p :: ps, d :: ds, .cons r t => by
    obtain ⟨e, r1, r2⟩ := r
    obtain ⟨kvs, t1, t2⟩ := ends_kvs t
    exact ⟨(Sum.inr (nameOf d), .ref e) :: kvs, .cons r1 t1, .cons ⟨rfl, e, rfl, r2⟩ t2⟩
theorem ends_keys {H : Hp} : ∀ {kvs : List (Key × V)} {ds : List PyData}, Paired (EndAt H) kvs ds → kvs.map (·.1) = (ds.map nameOf).map Sum.inr
  | _, _, .nil => rfl
  | _, _, .cons r t => by rw [List.map_cons, List.map_cons, List.map_cons, ends_keys t, r.1]
theorem merge_ndK : ∀ (kvs acc : List (Key × V)), ((acc ++ kvs).map (·.1)).Nodup → mergeK acc kvs = acc ++ kvs
  | [], acc, _ => by rw [List.append_nil]; rfl
  | kv :: kvs, acc, h => by
    have hn : ∀ p ∈ acc, p.1 ≠ kv.1 := fun p hp q => by
      rw [List.map_append, List.nodup_append] at h
      exact h.2.2 p.1 (List.mem_map.mpr ⟨p, hp, rfl⟩) kv.1 (by simp) q
    have hp : putK acc kv.1 kv.2 = acc ++ [kv] := by
      unfold putK
      rw [if_neg]
      rw [List.any_eq_true]
      rintro ⟨p, h1, h2⟩
      exact hn p h1 (of_decide_eq_true h2)
    show mergeK (putK acc kv.1 kv.2) kvs = _
    rw [hp, merge_ndK kvs (acc ++ [kv]) (by simpa using h)]
    simp
end Pk
end
section
set_option maxHeartbeats 1000000
/-! The law's own: denies. -/
namespace Pk
open PySem L2
def spLDenies : Sp := fun vs H Q _ => ∃ (h a b : Addr) (ds rs : List PyData) (s o : Say), vs = [.ref h, .ref a, .ref b] ∧ HouseAt H h ds rs ∧ H a = some (.tup (sayV s)) ∧ H b = some (.tup (sayV o)) ∧ SayH (ds.map nameOf) s ∧ SayH (ds.map nameOf) o ∧ ∀ H', Same H H' → Q (.bl (denyS (endsOf ds) s o)) H'
abbrev nLDen : List Str := ["_law_house_here", "_law_saying_here", "_law_other", "_law_ends", "_law_dial", "_law_fits", "_law_name", "_law_sort", "_law_number", "_law_low", "_law_high"]
theorem scLDen : FnScope nLDen ["_law_house_here", "_law_saying_here", "_law_other"] (defScope sLDenies) := ⟨rfl, rfl, rfl, by decide +kernel, rfl, by decide +kernel, by decide +kernel⟩
/-- what is left of the dials, one after the other -/
def fitsJ (e : Str → Int × Int) (s o : Say) : Nat → List (Int × Int)
  | 0 => []
  | 1 => [cutE (e s.1) s]
  | _ => [cutE (e s.1) s, cutE (e o.1) o]
theorem ends_le : ∀ {ds : List PyData} {z : Str}, (∀ d ∈ ds, DialG d) → (endsOf ds z).1 ≤ (endsOf ds z).2
  | [], z, _ => by show (0 : Int) ≤ 0; decide
  | d :: ds, z, h => by
    rw [endsOf_cons]
    by_cases c : nameOf d = z
    · rw [if_pos c]
      obtain ⟨nm, way, lo, hi, up, dn, rfl, h1, _, h2, b1, b2, b3, _⟩ := h d List.mem_cons_self
      exact b2
    · rw [if_neg c]
      exact ends_le fun e he => h e (List.mem_cons_of_mem _ he)
section
variable {P : Program} {w : World} {K : PySem.W.Frag} {mg : Str → Option Value} {base : Heap}
theorem ok_ldenies {f : Addr} {fd : FuncData} (F : Fun K "_law_denies" "_law_denies" sLDenies f fd) (B : Blt mg) : FnOk P w K mg base CX0 1 f fd ["_law_house_here", "_law_saying_here", "_law_other"] spLDenies := by
  refine F.ok scLDen (fun vs H Q E h => ?_) (fun cdv A outer s H vs Q E hr h => ?_)
  · obtain ⟨h, a, b, ds, rs, s, o, rfl, _⟩ := h
    rfl
  obtain ⟨h, a, b, ds, rs, y, o, rfl, hh, ha, hb, hy, ho, k⟩ := h
  have hu := hu_of hr
  refine ⟨_, pss_cons (ps_set (i := 3) scLDen.nd rfl (.inl rfl) (pe_callTy (call_dictP rfl) (by rfl) B.dict (by decide +kernel) (pa_cons (pe_lc (own := [("_law_dial", 4)]) (g := gName 4) (by rfl) scLDen.nd (pi_tup (pe_ix ix_tup (pv 0) pe_int (fun _ _ => rfl))) (blkOk_by (N := nLDen) (sc := defScope sLDenies) (by decide +kernel)) (fun _ _ _ _ _ => pg_name (i := 4) scLDen.nd rfl (Or.inl rfl)) (fun _ _ _ _ _ => pts_nil)
      (fun _ _ _ _ _ => pe_tup (pa_cons (pe_ix (r := rIxT K) ix_tup (pv 4) pe_int (fun _ _ => rfl)) (pa_cons (pe_tup (pa_cons (pe_ix (r := rIxT K) ix_tup (pv 4) pe_int (fun _ _ => rfl)) (pa_cons (pe_ix (r := rIxT K) ix_tup (pv 4) pe_int (fun _ _ => rfl)) pa_nil))) pa_nil)))) pa_nil))) <|
    pss_cons (ps_set (i := 5) scLDen.nd rfl (.inl rfl) (pe_lst pa_nil)) <|
    pss_cons (ps_for PassesOwn.never rfl (pi_tup (pe_tup (pa_cons (pv 1) (pa_cons (pv 2) pa_nil)))) (pg_tup rfl (pgs_cons (pg_name (i := 6) scLDen.nd rfl (.inl rfl)) (pgs_cons (pg_name (i := 7) scLDen.nd rfl (.inl rfl)) (pgs_cons (pg_name (i := 8) scLDen.nd rfl (.inl rfl)) pgs_nil))))
      (pss_cons (ps_asg (pe_dget hu (pv 3) (pv 6) (fun _ _ => rfl)) (pg_tup (by rfl) (pgs_cons (pg_name (i := 9) scLDen.nd rfl (.inl rfl)) <| pgs_cons (pg_name (i := 10) scLDen.nd rfl (.inl rfl)) pgs_nil))) <|
       pss_one (ps_expr (pe_bm PySem.F.plainAttrs_list PySem.F.slot_list_append PySem.F.type_list_append mt_append (pv 5) (pa_cons (pe_ifExp (pt_cmpR op_eq (pv 7) pe_str (nomark _)) (pe_tup (pa_cons (pe_callB (call_max2 rfl) (by rfl) B.max (by decide +kernel) (pa_cons (pv 9) (pa_cons (pv 8) pa_nil))) (pa_cons (pv 10) pa_nil))) (pe_tup (pa_cons (pv 9) (pa_cons (pe_callB (call_min2 rfl) (by rfl) B.min (by decide +kernel) (pa_cons (pv 10) (pa_cons (pv 8) pa_nil))) pa_nil)))) pa_nil))))) <|
    pss_cons (ps_if (PW.pt (pw_or (pt_cmpR op_gt (pe_ix ix_tup (pe_ix ix_list (pv 5) pe_int (fun _ _ => rfl)) pe_int (fun _ _ => rfl)) (pe_ix ix_tup (pe_ix ix_list (pv 5) pe_int (fun _ _ => rfl)) pe_int (fun _ _ => rfl)) (nomark _)) (pw_or1 (pt_cmpR op_gt (pe_ix ix_tup (pe_ix ix_list (pv 5) pe_int (fun _ _ => rfl)) pe_int (fun _ _ => rfl)) (pe_ix ix_tup (pe_ix ix_list (pv 5) pe_int (fun _ _ => rfl)) pe_int (fun _ _ => rfl)) (nomark _)))))
      (pss_one (ps_ret (pe_or (pe_cmpR op_gt (pe_ix ix_tup (pe_ix ix_list (pv 5) pe_int (fun _ _ => rfl)) pe_int (fun _ _ => rfl)) (pe_ix ix_tup (pe_ix ix_list (pv 5) pe_int (fun _ _ => rfl)) pe_int (fun _ _ => rfl)) (nomark _)) (pe_one (pe_cmpR op_eq (pe_ix ix_tup (pv 1) pe_int (fun _ _ => rfl)) (pe_ix ix_tup (pv 2) pe_int (fun _ _ => rfl)) (nomark _)))))) pss_nil) <|
    pss_one (ps_ret (pe_and (pe_cmpR op_eq (pe_ix ix_tup (pv 1) pe_int (fun _ _ => rfl)) (pe_ix ix_tup (pv 2) pe_int (fun _ _ => rfl)) (nomark _)) (pe_one (pe_cmpR op_gt (pe_callB (call_max2 rfl) (by rfl) B.max (by decide +kernel) (pa_cons (pe_ix ix_tup (pe_ix ix_list (pv 5) pe_int (fun _ _ => rfl)) pe_int (fun _ _ => rfl)) (pa_cons (pe_ix ix_tup (pe_ix ix_list (pv 5) pe_int (fun _ _ => rfl)) pe_int (fun _ _ => rfl)) pa_nil))) (pe_callB (call_min2 rfl) (by rfl) B.min (by decide +kernel) (pa_cons (pe_ix ix_tup (pe_ix ix_list (pv 5) pe_int (fun _ _ => rfl)) pe_int (fun _ _ => rfl)) (pa_cons (pe_ix ix_tup (pe_ix ix_list (pv 5) pe_int (fun _ _ => rfl)) pe_int (fun _ _ => rfl)) pa_nil))) (nomark _))))), ?_⟩
  have sl := sizeLine_eq
  have hg := hh.hg
  obtain ⟨dt, xs, rt, hh', hdt, ald⟩ : ∃ dt xs rt, H h = some (.tup [.ref dt, rt]) ∧ H dt = some (.tup xs) ∧ TrAll H xs ds := by
    have th := hh.tr
    cases th with
    | @tup _ hs _ e al =>
    match hs, al with
    | [_, _], .cons (.tup (a := dt) hd ad) (.cons _ .nil) => exact ⟨dt, _, _, e, hd, ad⟩
  have d2 := hg.d2
  refine ⟨_, rfl, h, _, _, _, rfl, rfl, SqT.of hh', rfl, dt, rfl, ⟨_, SqT.of hdt⟩, fun D hD => lc_tup (K := K) (a := dt) (xs := xs) (fun i H4 => ∃ ps : List Addr, H4 D = some (.lst (ps.map V.ref)) ∧ Paired (fun p d => ∃ e, H4 p = some (.tup [V.str (nameOf d), V.ref e]) ∧ H4 e = some (.tup [V.int (endsD d).1, V.int (endsD d).2])) ps (ds.take i) ∧ Same H H4)
    ⟨[], upd_same, .nil, sameNew hD _⟩ (fun i H4 _ ⟨_, _, _, s4⟩ => SqT.of (s4 _ _ hdt)) ?_ ?_⟩
  · rintro i x H4 hx ⟨ps, hD4, pr, s4⟩
    obtain ⟨d, hd, td⟩ := ald.get hx
    obtain ⟨b', nm, way, lo, hi', up, dn, eb, hb0, _, _, _, _, ed⟩ := dial_tup td (hg.dials d (List.mem_of_getElem? hd))
    subst eb
    have hb4 := s4 _ _ hb0
    have il := (List.getElem?_eq_some_iff.mp hd).1
    have pl := pr.length
    rw [List.length_take] at pl
    refine ⟨rfl, _, rfl, b', _, _, _, rfl, rfl, SqT.of hb4, (rfl : atI [V.str nm, V.int lo, V.int hi', V.str way, V.int up, V.int dn] 0 = some (.str nm)), _, rfl, b', _, _, _, rfl, rfl, SqT.of hb4, (rfl : atI [V.str nm, V.int lo, V.int hi', V.str way, V.int up, V.int dn] 1 = some (.int lo)), _, rfl, b', _, _, _, rfl, rfl, SqT.of hb4, (rfl : atI [V.str nm, V.int lo, V.int hi', V.str way, V.int up, V.int dn] 2 = some (.int hi')), by show 2 ≤ sizeLine; omega, fun e he => ⟨by show 2 ≤ sizeLine; omega, fun p hp => ?_⟩⟩
    have z1 := sameNew he (.tup [V.int lo, V.int hi'])
    have z2 := sameNew hp (.tup [V.str nm, V.ref e])
    have e1 : L2.upd (L2.upd H4 e (.tup [V.int lo, V.int hi'])) p (.tup [V.str nm, V.ref e]) e = some (.tup [V.int lo, V.int hi']) := z2 _ _ upd_same
    have e2 : L2.upd (L2.upd H4 e (.tup [V.int lo, V.int hi'])) p (.tup [V.str nm, V.ref e]) p = some (.tup [V.str nm, V.ref e]) := upd_same
    have z12 := z1.trans z2
    generalize L2.upd (L2.upd H4 e (.tup [V.int lo, V.int hi'])) p (.tup [V.str nm, V.ref e]) = H5 at e1 e2 z12
    have hD5 := z12 _ _ hD4
    have ne : ∀ {q : Addr} {ys : List V}, H5 q = some (.tup ys) → q ≠ D := fun hq z => by rw [z, hD5] at hq; cases hq
    refine ⟨_, hD5, by rw [List.length_map]; omega, ps ++ [p], by rw [upd_same, List.map_append]; rfl, ?_, fun b o ee => ?_⟩
    · rw [take_more hd]
      refine .snoc (L2.Paired.mapP pr fun q d ⟨e', h1, h2⟩ => ⟨e', ?_, ?_⟩) ⟨e, ?_, ?_⟩
      · rw [upd_ne (ne (z12 _ _ h1))]; exact z12 _ _ h1
      · rw [upd_ne (ne (z12 _ _ h2))]; exact z12 _ _ h2
      · rw [upd_ne (ne e2), e2, ed]; rfl
      · rw [upd_ne (ne e1), e1, ed]; rfl
    · rw [upd_ne (ne_of_none ee hD)]
      exact z12 _ _ (s4 _ _ ee)
  rintro H5 ⟨ps, hD5, pr, s5⟩
  rw [ald.length, List.take_length] at pr
  obtain ⟨kvs, p1, p2⟩ := ends_kvs pr
  have kk := ends_keys p2
  have mk : mergeK [] kvs = kvs := merge_ndK kvs [] (by
    rw [List.nil_append, kk]
    exact List.Pairwise.map _ (fun a b ne q => ne (Sum.inr.inj q)) hg.nd)
  refine ⟨D, ps, kvs, rfl, SqL.of hD5, L2.Paired.mapP p1 fun p kv h => SqT.of h, fun E hE => ?_⟩
  rw [mk]
  have s6 := s5.trans (sameNew hE (.dK kvs))
  have e6 : L2.upd H5 E (.dK kvs) E = some (.dK kvs) := upd_same
  have p6 := L2.Paired.mapP p2 fun kv d h => EndAt.same h (sameNew hE (.dK kvs))
  show tSeq _ _ _ _ (L2.upd H5 E (.dK kvs))
  generalize L2.upd H5 E (.dK kvs) = H6 at s6 e6 p6
  refine ⟨by show 0 ≤ sizeLine; omega, fun L hL => ?_⟩
  have L0 := s6.free hL
  have e7 : L2.upd H6 L (.lst []) L = some (.lst (([] : List Addr).map V.ref)) := upd_same
  have s7 := sameNew hL (.lst [])
  show tSeq _ _ _ _ (L2.upd H6 L (.lst []))
  generalize L2.upd H6 L (.lst []) = H7 at e7 s7
  refine ⟨_, rfl, _, rfl, by show 2 ≤ sizeLine; omega, fun t ht => ?_⟩
  have s8 := s7.trans (sameNew ht (.tup [V.ref a, V.ref b]))
  have e8 : L2.upd H7 t (.tup [V.ref a, V.ref b]) L = some (.lst (([] : List Addr).map V.ref)) := sameNew ht _ _ _ e7
  have t8 : L2.upd H7 t (.tup [V.ref a, V.ref b]) t = some (.tup [V.ref a, V.ref b]) := upd_same
  have tL : t ≠ L := fun z => by rw [← z, ht] at e7; cases e7
  generalize L2.upd H7 t (.tup [V.ref a, V.ref b]) = H8 at s8 e8 t8
  refine ⟨t, rfl, ⟨_, SqT.of t8⟩, for_it (walk_tup (xs := [V.ref a, V.ref b])) (fun j σ H9 => ∃ (v4 v6 v7 v8 v9 v10 : Option V) (fs : List Addr), σ = [some (.ref h), some (.ref a), some (.ref b), some (.ref E), v4, some (.ref L), v6, v7, v8, v9, v10] ∧ H9 L = some (.lst (fs.map V.ref)) ∧ Paired (fun p z => H9 p = some (.tup [V.int z.1, V.int z.2])) fs (fitsJ (endsOf ds) y o j) ∧ Same H6 H9 ∧ H9 t = some (.tup [V.ref a, V.ref b]))
    ⟨_, none, none, none, none, none, [], rfl, e8, .nil, s8, t8⟩ (fun j σ H9 _ ⟨_, _, _, _, _, _, _, _, _, _, _, q⟩ => SqT.of q) ?_ ?_⟩
  · rintro j x σ H0' H9 hj ⟨v4, v6, v7, v8, v9, v10, fs, rfl, hL9, pf, s9, t9⟩ ⟨rfl, hx⟩
    obtain ⟨p, z, hp, rfl, ec, hz, jl⟩ : ∃ (p : Addr) (z : Say), H p = some (.tup (sayV z)) ∧ x = .ref p ∧ fitsJ (endsOf ds) y o (j + 1) = fitsJ (endsOf ds) y o j ++ [cutE (endsOf ds z.1) z] ∧ z.1 ∈ ds.map nameOf ∧ (fitsJ (endsOf ds) y o j).length ≤ 1 := by
      match j, hx with
      | 0, hx => exact ⟨a, y, ha, (Option.some.inj hx).symm, rfl, hy.nm, Nat.zero_le _⟩
      | 1, hx => exact ⟨b, o, hb, (Option.some.inj hx).symm, rfl, ho.nm, Nat.le_refl _⟩
      | j + 2, hx => simp at hx
    have hp9 := s9 _ _ (s6 _ _ hp)
    obtain ⟨ez, hv, hez⟩ := val_ends p6 hz
    have hez9 := s9 _ _ hez
    have fl := pf.length
    refine ⟨p, _, rfl, SqT.of hp9, rfl, _, _, rfl, _, _, rfl, _, _, rfl, rfl, ?_⟩
    refine ⟨_, rfl, _, rfl, E, _, rfl, .inl ⟨kvs, Sum.inr z.1, .inl (s9 _ _ e6), rfl, hv.symm⟩, ez, _, rfl, SqT.of hez9, rfl, _, _, rfl, _, _, rfl, rfl, ?_⟩
    refine ⟨_, rfl, .inl ⟨rfl, _, SqL.of hL9⟩, _, rfl, rfl, _, rfl, ?_⟩
    rw [dec_least]
    have fin : ∀ (T : Addr), H9 T = none → ∀ (q : Int × Int), q = cutE (endsOf ds z.1) z → ∃ (fs' : List Addr), L2.upd (L2.upd H9 T (.tup [V.int q.1, V.int q.2])) L (.lst (fs.map V.ref ++ [V.ref T])) L = some (.lst (fs'.map V.ref)) ∧ Paired (fun p z => L2.upd (L2.upd H9 T (.tup [V.int q.1, V.int q.2])) L (.lst (fs.map V.ref ++ [V.ref T])) p = some (.tup [V.int z.1, V.int z.2])) fs' (fitsJ (endsOf ds) y o (j + 1)) ∧ Same H6 (L2.upd (L2.upd H9 T (.tup [V.int q.1, V.int q.2])) L (.lst (fs.map V.ref ++ [V.ref T]))) ∧ L2.upd (L2.upd H9 T (.tup [V.int q.1, V.int q.2])) L (.lst (fs.map V.ref ++ [V.ref T])) t = some (.tup [V.ref a, V.ref b]) := fun T hT q eq => by
      have zT := sameNew hT (.tup [V.int q.1, V.int q.2])
      have hLT := zT _ _ hL9
      have ne : ∀ {r : Addr} {ys : List V}, L2.upd H9 T (.tup [V.int q.1, V.int q.2]) r = some (.tup ys) → r ≠ L := fun hq z => by rw [z, hLT] at hq; cases hq
      refine ⟨fs ++ [T], by rw [upd_same, List.map_append]; rfl, ?_, fun b o ee => ?_, ?_⟩
      · rw [ec]
        refine .snoc (L2.Paired.mapP pf fun p z h => ?_) ?_
        · rw [upd_ne (ne (zT _ _ h))]
          exact zT _ _ h
        · rw [upd_ne (ne upd_same), upd_same, eq]
      · rw [upd_ne (ne_of_none ee hL)]
        exact zT _ _ (s9 _ _ ee)
      · rw [upd_ne tL]
        exact zT _ _ t9
    cases c : leastS z with
    | true =>
      refine iteT ⟨_, rfl, _, rfl, _, _, rfl, _, rfl, by show 2 ≤ sizeLine; omega, fun T hT => ?_⟩
      obtain ⟨fs', f1, f2, f3, f4⟩ := fin T hT (if z.2.2 > (endsOf ds z.1).1 then z.2.2 else (endsOf ds z.1).1, (endsOf ds z.1).2) (by unfold cutE; rw [c, if_pos rfl])
      exact ⟨L, _, _, rfl, rfl, sameNew hT _ _ _ hL9, by rw [List.length_map]; omega, ⟨_, _, _, _, _, _, fs', rfl, f1, f2, f3, f4⟩⟩
    | false =>
      refine iteF ⟨_, rfl, _, rfl, _, rfl, _, _, rfl, by show 2 ≤ sizeLine; omega, fun T hT => ?_⟩
      obtain ⟨fs', f1, f2, f3, f4⟩ := fin T hT ((endsOf ds z.1).1, if z.2.2 < (endsOf ds z.1).2 then z.2.2 else (endsOf ds z.1).2) (by unfold cutE; rw [c, if_neg Bool.false_ne_true])
      exact ⟨L, _, _, rfl, rfl, sameNew hT _ _ _ hL9, by rw [List.length_map]; omega, ⟨_, _, _, _, _, _, fs', rfl, f1, f2, f3, f4⟩⟩
  rintro σ H9 ⟨v4, v6, v7, v8, v9, v10, fs, rfl, hL9, pf, s9, t9⟩
  have pf : Paired (fun p (z : Int × Int) => H9 p = some (.tup [V.int z.1, V.int z.2])) fs [cutE (endsOf ds y.1) y, cutE (endsOf ds o.1) o] := pf
  have k := k H9 (s6.trans s9)
  rw [← deny_same (ends_le hg.dials)] at k
  unfold denyLaw at k
  have ha9 := s9 _ _ (s6 _ _ ha)
  have hb9 := s9 _ _ (s6 _ _ hb)
  generalize cutE (endsOf ds y.1) y = q0 at k pf
  generalize cutE (endsOf ds o.1) o = q1 at k pf
  match fs, pf, hL9 with
  | [f0, f1], .cons hf0 (.cons hf1 .nil), hL9 =>
  have hL2 : H9 L = some (.lst [V.ref f0, V.ref f1]) := hL9
  refine ⟨_, rfl, L, _, _, _, rfl, rfl, SqL.of hL2, (rfl : atI [V.ref f0, V.ref f1] 0 = some (.ref f0)), f0, _, _, _, rfl, rfl, SqT.of hf0, (rfl : atI [V.int q0.1, V.int q0.2] 0 = some (.int q0.1)), _, rfl, L, _, _, _, rfl, rfl, SqL.of hL2, (rfl : atI [V.ref f0, V.ref f1] 0 = some (.ref f0)), f0, _, _, _, rfl, rfl, SqT.of hf0, (rfl : atI [V.int q0.1, V.int q0.2] 1 = some (.int q0.2)), _, _, rfl, rfl, _, rfl, ?_⟩
  by_cases x0 : q0.2 < q0.1
  · rw [decide_eq_true x0]
    rw [decide_eq_true x0, Bool.true_or, if_pos rfl, Bool.true_or] at k
    refine iteT ⟨_, rfl, L, _, _, _, rfl, rfl, SqL.of hL2, (rfl : atI [V.ref f0, V.ref f1] 0 = some (.ref f0)), f0, _, _, _, rfl, rfl, SqT.of hf0, (rfl : atI [V.int q0.1, V.int q0.2] 0 = some (.int q0.1)), _, rfl, L, _, _, _, rfl, rfl, SqL.of hL2, (rfl : atI [V.ref f0, V.ref f1] 0 = some (.ref f0)), f0, _, _, _, rfl, rfl, SqT.of hf0, (rfl : atI [V.int q0.1, V.int q0.2] 1 = some (.int q0.2)), _, _, rfl, rfl, _, rfl, ?_⟩
    rw [decide_eq_true x0]
    exact iteT k
  · rw [decide_eq_false x0]
    rw [decide_eq_false x0, Bool.false_or, Bool.false_or] at k
    refine iteF ⟨_, rfl, L, _, _, _, rfl, rfl, SqL.of hL2, (rfl : atI [V.ref f0, V.ref f1] 1 = some (.ref f1)), f1, _, _, _, rfl, rfl, SqT.of hf1, (rfl : atI [V.int q1.1, V.int q1.2] 0 = some (.int q1.1)), _, rfl, L, _, _, _, rfl, rfl, SqL.of hL2, (rfl : atI [V.ref f0, V.ref f1] 1 = some (.ref f1)), f1, _, _, _, rfl, rfl, SqT.of hf1, (rfl : atI [V.int q1.1, V.int q1.2] 1 = some (.int q1.2)), _, _, rfl, rfl, _, rfl, ?_⟩
    by_cases x1 : q1.2 < q1.1
    · rw [decide_eq_true x1]
      rw [decide_eq_true x1, if_pos rfl] at k
      refine iteT ⟨_, rfl, L, _, _, _, rfl, rfl, SqL.of hL2, (rfl : atI [V.ref f0, V.ref f1] 0 = some (.ref f0)), f0, _, _, _, rfl, rfl, SqT.of hf0, (rfl : atI [V.int q0.1, V.int q0.2] 0 = some (.int q0.1)), _, rfl, L, _, _, _, rfl, rfl, SqL.of hL2, (rfl : atI [V.ref f0, V.ref f1] 0 = some (.ref f0)), f0, _, _, _, rfl, rfl, SqT.of hf0, (rfl : atI [V.int q0.1, V.int q0.2] 1 = some (.int q0.2)), _, _, rfl, rfl, _, rfl, ?_⟩
      rw [decide_eq_false x0]
      refine iteF ⟨_, rfl, a, _, _, _, rfl, rfl, SqT.of ha9, (rfl : atI (sayV y) 0 = some (V.str y.1)), _, rfl, b, _, _, _, rfl, rfl, SqT.of hb9, (rfl : atI (sayV o) 0 = some (V.str o.1)), rfl, ?_⟩
      rw [dec_strV]
      exact k
    · rw [decide_eq_false x1]
      rw [decide_eq_false x1, if_neg Bool.false_ne_true] at k
      refine iteF ⟨_, rfl, a, _, _, _, rfl, rfl, SqT.of ha9, (rfl : atI (sayV y) 0 = some (V.str y.1)), _, rfl, b, _, _, _, rfl, rfl, SqT.of hb9, (rfl : atI (sayV o) 0 = some (V.str o.1)), rfl, _, rfl, ?_⟩
      rw [dec_strV]
      by_cases x2 : y.1 = o.1
      · rw [decide_eq_true x2]
        rw [decide_eq_true x2, Bool.true_and] at k
        exact iteT ⟨_, rfl, L, _, _, _, rfl, rfl, SqL.of hL2, (rfl : atI [V.ref f0, V.ref f1] 0 = some (.ref f0)), f0, _, _, _, rfl, rfl, SqT.of hf0, (rfl : atI [V.int q0.1, V.int q0.2] 0 = some (.int q0.1)), _, rfl, L, _, _, _, rfl, rfl, SqL.of hL2, (rfl : atI [V.ref f0, V.ref f1] 1 = some (.ref f1)), f1, _, _, _, rfl, rfl, SqT.of hf1, (rfl : atI [V.int q1.1, V.int q1.2] 0 = some (.int q1.1)), _, _, rfl, _, rfl, L, _, _, _, rfl, rfl, SqL.of hL2, (rfl : atI [V.ref f0, V.ref f1] 0 = some (.ref f0)), f0, _, _, _, rfl, rfl, SqT.of hf0, (rfl : atI [V.int q0.1, V.int q0.2] 1 = some (.int q0.2)), _, rfl, L, _, _, _, rfl, rfl, SqL.of hL2, (rfl : atI [V.ref f0, V.ref f1] 1 = some (.ref f1)), f1, _, _, _, rfl, rfl, SqT.of hf1, (rfl : atI [V.int q1.1, V.int q1.2] 1 = some (.int q1.2)), _, _, rfl, _, _, rfl, rfl, k⟩
      · rw [decide_eq_false x2]
        rw [decide_eq_false x2, Bool.false_and] at k
        exact iteF k
end
end Pk
end
section
set_option maxHeartbeats 1000000
/-! The law's own: brought. -/
namespace Pk
open PySem L2
abbrev sLBrought : Stmt := topH 63
def spLBrought : Sp := fun vs H Q _ => ∃ (h r a : Addr) (ds rs : List PyData) (s : Say) (R : Rul), vs = [.ref h, .ref r, .ref a] ∧ HouseAt H h ds rs ∧ RulAt H r R ∧ RulOk (ds.map nameOf) R ∧ H a = some (.tup (sayV s)) ∧ SayH (ds.map nameOf) s ∧
  ∀ (l : Addr) (os : List Addr) (H' : Hp), Same H H' → H l = none → H' l = some (.lst (os.map V.ref)) → SaysAt H' os (givenR (endsOf ds) R s) → Q (.ref l) H'
theorem HouseAt.same {H H' : Hp} {h : Addr} {ds rs : List PyData} (a : HouseAt H h ds rs) (s : Same H H') : HouseAt H' h ds rs := ⟨a.tr.same s, a.hg⟩
abbrev nBrought : List Str := ["_law_house_here", "_law_rule_here", "_law_saying_here", "_law_name", "_law_sort", "_law_number", "_law_k", "_law_word", "_law_one", "_law_other", "_law_by"]
theorem scBrought : FnScope nBrought ["_law_house_here", "_law_rule_here", "_law_saying_here"] (defScope sLBrought) := ⟨rfl, rfl, rfl, by decide +kernel, rfl, by decide +kernel, by decide +kernel⟩
section
variable {P : Program} {w : World} {K : PySem.W.Frag} {mg : Str → Option Value} {base : Heap}
theorem ok_lbrought {f g : Addr} {fd gd : FuncData} (F : Fun K "_law_brought" "_law_brought" sLBrought f fd)
    (G : FnOk P w K mg base CX0 1 g gd ["_law_house_here", "_law_saying_here", "_law_other"] spLDenies) (bG : Binds K gd ["_law_house_here", "_law_saying_here", "_law_other"] []) (kG : PySem.W.keepIn K (.ref g) = true) (mG : mg "_law_denies" = some (.ref g)) :
    FnOk P w K mg base CX0 2 f fd ["_law_house_here", "_law_rule_here", "_law_saying_here"] spLBrought := by
  refine F.ok scBrought (fun vs H Q E h => ?_) (fun cdv A outer s H vs Q E hr h => ?_)
  · obtain ⟨h, r, a, ds, rs, s, R, rfl, _⟩ := h
    rfl
  obtain ⟨h, r, a, ds, rs, z, R, rfl, hh, hR, oR, ha, hz, k⟩ := h
  have hu := hu_of hr
  have h64 : (A.deeper (PyProof.Rows.envOfC "_law_brought" (defScope sLBrought) s.heap.objs.size f cdv)).units + 64 < cLine := by
    have := hr.un
    omega
  refine ⟨_, pss_cons (ps_asg (pv 2) (pg_tup (by rfl) (pgs_cons (pg_name (i := 3) scBrought.nd rfl (.inl rfl)) <| pgs_cons (pg_name (i := 4) scBrought.nd rfl (.inl rfl)) <| pgs_cons (pg_name (i := 5) scBrought.nd rfl (.inl rfl)) pgs_nil))) <|
    pss_cons (ps_if (pt_cmpR op_eq (pe_ix ix_tup (pv 1) pe_int (fun _ _ => rfl)) pe_str (nomark _)) (pss_one (ps_ret (pe_lc (own := [("_law_k", 6)]) (g := gName 6) (by rfl) scBrought.nd (pi_tup (pe_tup (pa_cons pe_int (pa_cons pe_int pa_nil)))) (blkOk_by (N := nBrought) (sc := defScope sLBrought) (by decide +kernel)) (fun _ _ _ _ _ => pg_name (i := 6) scBrought.nd rfl (Or.inl rfl)) (fun _ _ _ _ _ => pts_one (pt_val (pe_call G hr rfl mG kG bG .nil pass0 (pa_cons (pv 0) (pa_cons (pv 2) (pa_cons (pe_ix (r := rIxT K) ix_tup (pv 1) (pv 6) (fun _ _ => rfl)) pa_nil))))))
      (fun _ _ _ _ _ => pe_ix (r := rIxT K) ix_tup (pv 1) (pe_op op_sub pe_int (pv 6)) (fun _ _ => rfl))))) pss_nil) <|
    pss_cons (ps_asg (pv 1) (pg_tup (by rfl) (pgs_cons (pg_name (i := 7) scBrought.nd rfl (.inl rfl)) <| pgs_cons (pg_name (i := 8) scBrought.nd rfl (.inl rfl)) <| pgs_cons (pg_name (i := 9) scBrought.nd rfl (.inl rfl)) <| pgs_cons (pg_name (i := 10) scBrought.nd rfl (.inl rfl)) pgs_nil))) <|
    pss_cons (ps_if (pt_cmpR op_eq (pv 7) pe_str (nomark _))
      (pss_cons (ps_if (pt_cmpR (op_eqD h64) (pe_tup (pa_cons (pv 3) (pa_cons (pv 4) pa_nil))) (pe_tup (pa_cons (pv 8) (pa_cons pe_str pa_nil))) (nomark _)) (pss_one (ps_ret (pe_lst (pa_cons (pe_tup (pa_cons (pv 9) (pa_cons pe_str (pa_cons (pe_op op_sub (pv 5) (pv 10)) pa_nil)))) pa_nil)))) pss_nil) <|
       pss_one (ps_ret (pe_ifExp (pt_cmpR (op_eqD h64) (pe_tup (pa_cons (pv 3) (pa_cons (pv 4) pa_nil))) (pe_tup (pa_cons (pv 9) (pa_cons pe_str pa_nil))) (nomark _)) (pe_lst (pa_cons (pe_tup (pa_cons (pv 8) (pa_cons pe_str (pa_cons (pe_op op_add (pv 5) (pv 10)) pa_nil)))) pa_nil)) (pe_lst pa_nil)))) pss_nil) <|
    pss_cons (ps_if (PW.pt (pw_or (pt_cmpR op_ne (pv 4) (pe_ifExp (pt_cmpR op_eq (pv 7) pe_str (nomark _)) pe_str pe_str) (nomark _)) (pw_or1 (pt_cmpR (op_notInS hu) (pv 3) (pe_tup (pa_cons (pv 8) (pa_cons (pv 9) pa_nil))) (by rfl))))) (pss_one (ps_ret (pe_lst pa_nil))) pss_nil) <|
    pss_one (ps_ret (pe_lst (pa_cons (pe_tup (pa_cons (pe_ifExp (pt_cmpR op_eq (pv 3) (pv 8) (nomark _)) (pv 9) (pv 8)) (pa_cons (pe_ifExp (pt_cmpR op_eq (pv 7) pe_str (nomark _)) pe_str pe_str) (pa_cons (pe_op op_sub (pv 10) (pv 5)) pa_nil)))) pa_nil))), ?_⟩
  have sl := sizeLine_eq
  have hg := hh.hg
  have zs1 := nmK_str hg hz.nm
  have zs2 := sorts_ok _ hz.so
  refine ⟨_, rfl, a, _, rfl, SqT.of ha, rfl, _, _, rfl, _, _, rfl, _, _, rfl, rfl, ?_⟩
  cases R with
  | one p q =>
    obtain ⟨x, y, hr1, hx, hy⟩ := hR
    refine ⟨_, rfl, r, _, _, _, rfl, rfl, SqT.of hr1, rfl, rfl, _, rfl, ?_⟩
    rw [decide_eq_true rfl]
    refine iteT ⟨by show 2 ≤ sizeLine; omega, fun t ht => ?_⟩
    have s1 := sameNew ht (.tup [V.int 1, V.int 2])
    have e1 : L2.upd H t (.tup [V.int 1, V.int 2]) t = some (.tup [V.int 1, V.int 2]) := upd_same
    generalize L2.upd H t (.tup [V.int 1, V.int 2]) = H1 at s1 e1
    refine ⟨t, rfl, ⟨_, SqT.of e1⟩, fun D hD => lc_tup (K := K) (a := t) (xs := [V.int 1, V.int 2]) (fun i H4 => ∃ os : List Addr, H4 D = some (.lst (os.map V.ref)) ∧ os.length ≤ i ∧ Paired (fun a z => H a = some (.tup (sayV z))) os ((if 1 ≤ i ∧ denyS (endsOf ds) z p = true then [q] else []) ++ (if 2 ≤ i ∧ denyS (endsOf ds) z q = true then [p] else [])) ∧ Same H1 H4)
      ⟨[], upd_same, Nat.le_refl _, .nil, sameNew hD _⟩ (fun i H4 _ ⟨_, _, _, _, s4⟩ => SqT.of (s4 _ _ e1)) ?_ ?_⟩
    · rintro i v H4 hv ⟨os, hD4, ol, pr, s4⟩
      obtain ⟨u, o, w', kk, rfl, hu1, hu2, hw1, hw2, so⟩ : ∃ (u : Addr) (o : Say) (w' : Addr) (kk : Say), v = .int ((i : Nat) + 1) ∧ atI [V.str "one", V.ref x, V.ref y] ((i : Nat) + 1) = some (.ref u) ∧ H u = some (.tup (sayV o)) ∧ atI [V.str "one", V.ref x, V.ref y] (3 - ((i : Nat) + 1)) = some (.ref w') ∧ H w' = some (.tup (sayV kk)) ∧ ((i = 0 ∧ o = p ∧ kk = q) ∨ (i = 1 ∧ o = q ∧ kk = p)) := by
        match i, hv with
        | 0, hv => exact ⟨x, p, y, q, (Option.some.inj hv).symm, rfl, hx, rfl, hy, .inl ⟨rfl, rfl, rfl⟩⟩
        | 1, hv => exact ⟨y, q, x, p, (Option.some.inj hv).symm, rfl, hy, rfl, hx, .inr ⟨rfl, rfl, rfl⟩⟩
        | i + 2, hv => simp at hv
      have s14 := s1.trans s4
      have ok' : SayH (ds.map nameOf) o := by
        rcases so with ⟨_, rfl, _⟩ | ⟨_, rfl, _⟩
        · exact oR.1
        · exact oR.2
      refine ⟨rfl, _, rfl, _, rfl, _, rfl, _, rfl, r, _, _, _, rfl, rfl, SqT.of (s14 _ _ hr1), hu1, h, a, u, ds, rs, z, o, rfl, hh.same s14, s14 _ _ ha, s14 _ _ hu2, hz, ok', fun H5 s5 => ⟨_, rfl, ?_⟩⟩
      have s15 := s14.trans s5
      have hD5 := s5 _ _ hD4
      have il : i ≤ 1 := by rcases so with ⟨e, _⟩ | ⟨e, _⟩ <;> omega
      cases c : denyS (endsOf ds) z o with
      | true =>
        refine iteT ⟨_, rfl, _, rfl, _, _, rfl, rfl, r, _, _, _, rfl, rfl, SqT.of (s15 _ _ hr1), hw1, _, hD5, by rw [List.length_map]; omega, os ++ [w'], by rw [upd_same, List.map_append]; rfl, by rw [List.length_append]; show os.length + 1 ≤ _; omega, ?_, fun b o e => ?_⟩
        · rcases so with ⟨rfl, rfl, rfl⟩ | ⟨rfl, rfl, rfl⟩
          · have pr : Paired (fun a z => H a = some (.tup (sayV z))) os [] := pr
            cases pr
            rw [c]
            exact .cons hw2 .nil
          · rw [c]
            have e2 : (if 1 ≤ 1 ∧ denyS (endsOf ds) z kk = true then [o] else []) ++ (if 2 ≤ 1 ∧ denyS (endsOf ds) z o = true then [kk] else []) = (if 1 ≤ 1 ∧ denyS (endsOf ds) z kk = true then [o] else []) := by
              rw [if_neg (show ¬ (2 ≤ 1 ∧ denyS (endsOf ds) z o = true) from fun q => by omega), List.append_nil]
            rw [e2] at pr
            have e4 : (if 1 ≤ 1 + 1 ∧ denyS (endsOf ds) z kk = true then [o] else []) ++ (if 2 ≤ 1 + 1 ∧ true = true then [kk] else []) = (if 1 ≤ 1 ∧ denyS (endsOf ds) z kk = true then [o] else []) ++ [kk] := by simp
            rw [e4]
            exact pr.snoc hw2
        · rw [upd_ne (ne_of_none e hD)]
          exact s5 _ _ (s4 _ _ e)
      | false =>
        refine iteF ⟨os, hD5, by omega, ?_, s4.trans s5⟩
        rcases so with ⟨rfl, rfl, rfl⟩ | ⟨rfl, rfl, rfl⟩
        · have pr : Paired (fun a z => H a = some (.tup (sayV z))) os [] := pr
          cases pr
          rw [c]
          exact .nil
        · rw [c]
          have e2 : (if 1 ≤ 1 ∧ denyS (endsOf ds) z kk = true then [o] else []) ++ (if 2 ≤ 1 ∧ denyS (endsOf ds) z o = true then [kk] else []) = (if 1 ≤ 1 ∧ denyS (endsOf ds) z kk = true then [o] else []) := by
            rw [if_neg (show ¬ (2 ≤ 1 ∧ denyS (endsOf ds) z o = true) from fun q => by omega), List.append_nil]
          rw [e2] at pr
          have e3 : (if 1 ≤ 1 + 1 ∧ denyS (endsOf ds) z kk = true then [o] else []) ++ (if 2 ≤ 1 + 1 ∧ false = true then [kk] else []) = (if 1 ≤ 1 ∧ denyS (endsOf ds) z kk = true then [o] else []) := by simp
          rw [e3]
          exact pr
    · rintro H5 ⟨os, hD5, _, pr, s5⟩
      refine k D os H5 (s1.trans s5) (s1.free hD) hD5 ?_
      have e : (if 1 ≤ [V.int 1, V.int 2].length ∧ denyS (endsOf ds) z p = true then [q] else []) ++ (if 2 ≤ [V.int 1, V.int 2].length ∧ denyS (endsOf ds) z q = true then [p] else []) = givenR (endsOf ds) (.one p q) z := by
        show _ = gByOne (endsOf ds) z p q
        unfold gByOne
        simp
      rw [e] at pr
      exact L2.Paired.mapP pr fun a z h => (s1.trans s5) _ _ h
  | pair wd na nb c =>
    have hR : H r = some (.tup [V.str wd, V.str na, V.str nb, V.int c]) := hR
    obtain ⟨ow, oa, ob⟩ := oR
    have oa1 := nmK_str hg oa
    have ob1 := nmK_str hg ob
    have ll : PyData.strOk "least" = true := by decide +kernel
    have lm : PyData.strOk "most" = true := by decide +kernel
    have w1 : wd ≠ "one" := fun e => by
      rw [e] at ow
      revert ow
      decide +kernel
    have one : ∀ (H1 : Hp) (t : Say), Same H H1 → givenR (endsOf ds) (.pair wd na nb c) z = [t] → ∀ b, H1 b = none → ∀ l, L2.upd H1 b (.tup (sayV t)) l = none → Q (.ref l) (L2.upd (L2.upd H1 b (.tup (sayV t))) l (.lst [V.ref b])) := fun H1 t s1 eg b hb l hl => by
      have s2 := s1.trans (sameNew hb (.tup (sayV t)))
      have l0 : H l = none := s2.free hl
      refine k l [b] _ (s2.trans (sameNew hl _)) l0 upd_same ?_
      rw [eg]
      exact .cons (sameNew hl _ _ _ upd_same) .nil
    have nil : ∀ (H1 : Hp), Same H H1 → givenR (endsOf ds) (.pair wd na nb c) z = [] → ∀ l, H1 l = none → Q (.ref l) (L2.upd H1 l (.lst [])) := fun H1 s1 eg l hl => by
      refine k l [] _ (s1.trans (sameNew hl _)) (s1.free hl) upd_same ?_
      rw [eg]
      exact .nil
    refine ⟨_, rfl, r, _, _, _, rfl, rfl, SqT.of hR, rfl, rfl, _, rfl, ?_⟩
    rw [dec_strV, decide_eq_false w1]
    refine iteF ⟨_, rfl, r, _, rfl, SqT.of hR, rfl, _, _, rfl, _, _, rfl, _, _, rfl, _, _, rfl, rfl, ?_⟩
    refine ⟨_, rfl, rfl, _, rfl, ?_⟩
    rw [dec_strV]
    by_cases c1 : wd = "off"
    · rw [decide_eq_true c1]
      refine iteT ⟨_, rfl, _, rfl, by show 2 ≤ sizeLine; omega, fun t1 ht1 => ?_⟩
      have y1 := sameNew ht1 (.tup [V.str z.1, V.str z.2.1])
      refine ⟨_, rfl, by show 2 ≤ sizeLine; omega, fun t2 ht2 => ?_⟩
      have y2 := sameNew ht2 (.tup [V.str na, V.str "least"])
      have y12 := y1.trans y2
      refine ⟨_, _, Tr.dp (.tup (y2 _ _ upd_same) (.cons (.str _) (.cons (.str _) .nil))) rfl, Tr.dp (.tup upd_same (.cons (.str _) (.cons (.str _) .nil))) rfl, pair_shaped zs1 zs2, pair_shaped oa1 ll, _, rfl, ?_⟩
      rw [eqv_pair]
      by_cases c2 : z.1 = na ∧ z.2.1 = "least"
      · rw [decide_eq_true c2.1, decide_eq_true c2.2]
        exact iteT ⟨_, rfl, _, rfl, _, rfl, _, _, rfl, rfl, by show 3 ≤ sizeLine; omega, fun b hb => ⟨by show 1 ≤ sizeLine; omega, fun l hl => one _ (nb, "least", z.2.2 - c) y12 (by rw [givenR_pair, if_pos c1, if_pos c2]) b hb l hl⟩⟩
      · have e0 : (decide (z.1 = na) && decide (z.2.1 = "least")) = false := by
          rw [← Bool.not_eq_true, Bool.and_eq_true, decide_eq_true_eq, decide_eq_true_eq]
          exact c2
        rw [e0]
        refine iteF ⟨_, rfl, _, rfl, by show 2 ≤ sizeLine; omega, fun t3 ht3 => ?_⟩
        have y3 := sameNew ht3 (.tup [V.str z.1, V.str z.2.1])
        refine ⟨_, rfl, by show 2 ≤ sizeLine; omega, fun t4 ht4 => ?_⟩
        have y4 := sameNew ht4 (.tup [V.str nb, V.str "most"])
        have y14 := y12.trans (y3.trans y4)
        refine ⟨_, _, Tr.dp (.tup (y4 _ _ upd_same) (.cons (.str _) (.cons (.str _) .nil))) rfl, Tr.dp (.tup upd_same (.cons (.str _) (.cons (.str _) .nil))) rfl, pair_shaped zs1 zs2, pair_shaped ob1 lm, _, rfl, ?_⟩
        rw [eqv_pair]
        by_cases c3 : z.1 = nb ∧ z.2.1 = "most"
        · rw [decide_eq_true c3.1, decide_eq_true c3.2]
          exact iteT ⟨_, rfl, _, rfl, _, rfl, _, _, rfl, rfl, by show 3 ≤ sizeLine; omega, fun b hb => ⟨by show 1 ≤ sizeLine; omega, fun l hl => one _ (na, "most", z.2.2 + c) y14 (by rw [givenR_pair, if_pos c1, if_neg c2, if_pos c3]) b hb l hl⟩⟩
        · have e1 : (decide (z.1 = nb) && decide (z.2.1 = "most")) = false := by
            rw [← Bool.not_eq_true, Bool.and_eq_true, decide_eq_true_eq, decide_eq_true_eq]
            exact c3
          rw [e1]
          exact iteF ⟨by show 0 ≤ sizeLine; omega, fun l hl => nil _ y14 (by rw [givenR_pair, if_pos c1, if_neg c2, if_neg c3]) l hl⟩
    · rw [decide_eq_false c1]
      have hw : wd = "most" ∨ wd = "least" := by
        have q : ∀ x ∈ pairs3, x = "off" ∨ (x = "most" ∨ x = "least") := by decide +kernel
        exact (q wd ow).elim (fun e => (c1 e).elim) id
      have hs : z.2.1 = "least" ∨ z.2.1 = "most" := by
        have q : ∀ x ∈ sorts2, x = "least" ∨ x = "most" := by decide +kernel
        exact q _ hz.so
      have lm' : ("least" : Str) ≠ "most" := by decide +kernel
      rcases hw with rfl | rfl
      · refine iteF ⟨_, rfl, _, rfl, rfl, _, rfl, ?_⟩
        rw [dec_strV, decide_eq_true rfl]
        refine iteT ⟨rfl, _, rfl, ?_⟩
        rw [dec_strV]
        by_cases c2 : z.2.1 = "least"
        · rw [decide_eq_true c2]
          have c5 : z.2.1 ≠ "most" := by rw [c2]; decide +kernel
          refine iteF ⟨_, rfl, _, rfl, _, rfl, by show 2 ≤ sizeLine; omega, fun t ht => ?_⟩
          have s1 := sameNew ht (.tup [V.str na, V.str nb])
          refine ⟨.str z.1, t, [na, nb], .str _, rfl, .inr (SqT.of upd_same), _, rfl, ?_⟩
          have e : ([na, nb].any fun y => strIs y (.str z.1)) = decide (z.1 = na ∨ z.1 = nb) := by
            show (strIs na (.str z.1) || (strIs nb (.str z.1) || false)) = _
            rw [strIs_str, strIs_str, Bool.or_false, Bool.eq_iff_iff, Bool.or_eq_true, decide_eq_true_eq, decide_eq_true_eq, decide_eq_true_eq]
          rw [e]
          by_cases c3 : z.1 = na ∨ z.1 = nb
          · rw [decide_eq_true c3]
            refine iteF ⟨_, rfl, _, rfl, rfl, _, rfl, ?_⟩
            rw [dec_strV]
            have c6 : ¬ (z.2.1 = "most" ∨ ¬ (z.1 = na ∨ z.1 = nb)) := fun q => q.elim c5 fun q => q c3
            by_cases c4 : z.1 = na
            · rw [decide_eq_true c4]
              refine iteT ⟨_, rfl, _, rfl, rfl, _, rfl, ?_⟩
              rw [dec_strV, decide_eq_true rfl]
              exact iteT ⟨_, rfl, _, rfl, _, _, rfl, rfl, by show 3 ≤ sizeLine; omega, fun b hb => ⟨by show 1 ≤ sizeLine; omega, fun l hl => one _ (nb, "most", c - z.2.2) s1 (by rw [givenR_pair, if_neg c1, if_neg c6, if_pos c4]) b hb l hl⟩⟩
            · rw [decide_eq_false c4]
              refine iteF ⟨_, rfl, _, rfl, rfl, _, rfl, ?_⟩
              rw [dec_strV, decide_eq_true rfl]
              exact iteT ⟨_, rfl, _, rfl, _, _, rfl, rfl, by show 3 ≤ sizeLine; omega, fun b hb => ⟨by show 1 ≤ sizeLine; omega, fun l hl => one _ (na, "most", c - z.2.2) s1 (by rw [givenR_pair, if_neg c1, if_neg c6, if_neg c4]) b hb l hl⟩⟩
          · rw [decide_eq_false c3]
            exact iteT ⟨by show 0 ≤ sizeLine; omega, fun l hl => nil _ s1 (by rw [givenR_pair, if_neg c1, if_pos (.inr c3)]) l hl⟩
        · rw [decide_eq_false c2]
          have c5 : z.2.1 = "most" := hs.elim (fun q => (c2 q).elim) id
          exact iteT ⟨by show 0 ≤ sizeLine; omega, fun l hl => nil H (Same.refl H) (by rw [givenR_pair, if_neg c1, if_pos (.inl c5)]) l hl⟩
      · refine iteF ⟨_, rfl, _, rfl, rfl, _, rfl, ?_⟩
        rw [dec_strV, decide_eq_false lm']
        refine iteF ⟨rfl, _, rfl, ?_⟩
        rw [dec_strV]
        by_cases c2 : z.2.1 = "most"
        · rw [decide_eq_true c2]
          have c5 : z.2.1 ≠ "least" := by rw [c2]; decide +kernel
          refine iteF ⟨_, rfl, _, rfl, _, rfl, by show 2 ≤ sizeLine; omega, fun t ht => ?_⟩
          have s1 := sameNew ht (.tup [V.str na, V.str nb])
          refine ⟨.str z.1, t, [na, nb], .str _, rfl, .inr (SqT.of upd_same), _, rfl, ?_⟩
          have e : ([na, nb].any fun y => strIs y (.str z.1)) = decide (z.1 = na ∨ z.1 = nb) := by
            show (strIs na (.str z.1) || (strIs nb (.str z.1) || false)) = _
            rw [strIs_str, strIs_str, Bool.or_false, Bool.eq_iff_iff, Bool.or_eq_true, decide_eq_true_eq, decide_eq_true_eq, decide_eq_true_eq]
          rw [e]
          by_cases c3 : z.1 = na ∨ z.1 = nb
          · rw [decide_eq_true c3]
            refine iteF ⟨_, rfl, _, rfl, rfl, _, rfl, ?_⟩
            rw [dec_strV]
            have c6 : ¬ (z.2.1 = "least" ∨ ¬ (z.1 = na ∨ z.1 = nb)) := fun q => q.elim c5 fun q => q c3
            by_cases c4 : z.1 = na
            · rw [decide_eq_true c4]
              refine iteT ⟨_, rfl, _, rfl, rfl, _, rfl, ?_⟩
              rw [dec_strV, decide_eq_false lm']
              exact iteF ⟨_, rfl, _, rfl, _, _, rfl, rfl, by show 3 ≤ sizeLine; omega, fun b hb => ⟨by show 1 ≤ sizeLine; omega, fun l hl => one _ (nb, "least", c - z.2.2) s1 (by rw [givenR_pair, if_neg c1, if_neg c6, if_pos c4]) b hb l hl⟩⟩
            · rw [decide_eq_false c4]
              refine iteF ⟨_, rfl, _, rfl, rfl, _, rfl, ?_⟩
              rw [dec_strV, decide_eq_false lm']
              exact iteF ⟨_, rfl, _, rfl, _, _, rfl, rfl, by show 3 ≤ sizeLine; omega, fun b hb => ⟨by show 1 ≤ sizeLine; omega, fun l hl => one _ (na, "least", c - z.2.2) s1 (by rw [givenR_pair, if_neg c1, if_neg c6, if_neg c4]) b hb l hl⟩⟩
          · rw [decide_eq_false c3]
            exact iteT ⟨by show 0 ≤ sizeLine; omega, fun l hl => nil _ s1 (by rw [givenR_pair, if_neg c1, if_pos (.inr c3)]) l hl⟩
        · rw [decide_eq_false c2]
          have c5 : z.2.1 = "least" := hs.elim id (fun q => (c2 q).elim)
          exact iteT ⟨by show 0 ≤ sizeLine; omega, fun l hl => nil H (Same.refl H) (by rw [givenR_pair, if_neg c1, if_pos (.inl c5)]) l hl⟩
end
end Pk
end
section
set_option maxHeartbeats 1000000
/-! The law's own: links. -/
namespace Pk
open PySem L2
abbrev sLLinks : Stmt := topH 64
def spLLinks : Sp := fun vs H Q _ => ∃ (h a b : Addr) (ds rs : List PyData) (s t : Say) (by_ : Int), vs = [.ref h, .ref a, .int by_, .ref b] ∧ HouseAt H h ds rs ∧ H a = some (.tup (sayV s)) ∧ H b = some (.tup (sayV t)) ∧ SayH (ds.map nameOf) s ∧ SayH (ds.map nameOf) t ∧ -1 ≤ by_ ∧ by_ < (rs.length : Nat) ∧
  ∀ H', Same H H' → Q (.bl (leadB (endsOf ds) rs s t by_)) H'
abbrev nLLinks : List Str := ["_law_house_here", "_law_front", "_law_by", "_law_saying_here", "_law_one"]
theorem scLLinks : FnScope nLLinks ["_law_house_here", "_law_front", "_law_by", "_law_saying_here"] (defScope sLLinks) := ⟨rfl, rfl, rfl, by decide +kernel, rfl, by decide +kernel, by decide +kernel⟩
section
variable {P : Program} {w : World} {K : PySem.W.Frag} {mg : Str → Option Value} {base : Heap}
theorem ok_llinks {f g1 g2 : Addr} {fd d1 d2 : FuncData} (F : Fun K "_law_links" "_law_links" sLLinks f fd)
    (G1 : FnOk P w K mg base CX0 1 g1 d1 ["_law_saying_here", "_law_other"] spGives) (b1 : Binds K d1 ["_law_saying_here", "_law_other"] []) (k1 : PySem.W.keepIn K (.ref g1) = true) (m1 : mg "_law_gives" = some (.ref g1))
    (G2 : FnOk P w K mg base CX0 2 g2 d2 ["_law_house_here", "_law_rule_here", "_law_saying_here"] spLBrought) (b2 : Binds K d2 ["_law_house_here", "_law_rule_here", "_law_saying_here"] []) (k2 : PySem.W.keepIn K (.ref g2) = true) (m2 : mg "_law_brought" = some (.ref g2)) :
    FnOk P w K mg base CX0 3 f fd ["_law_house_here", "_law_front", "_law_by", "_law_saying_here"] spLLinks := by
  refine F.ok scLLinks (fun vs H Q E h => ?_) (fun cdv A outer s H vs Q E hr h => ?_)
  · obtain ⟨h, a, b, ds, rs, s, t, by_, rfl, _⟩ := h
    rfl
  obtain ⟨h, a, b, ds, rs, z, t, by_, rfl, hh, ha, hb, hz, ht, hb1, hb2, k⟩ := h
  have hr1 : Room 1 _ := hr.mono (by decide)
  have hu := hu_of hr
  have hu0 : (A.deeper (PyProof.Rows.envOfC "_law_links" (defScope sLLinks) s.heap.objs.size f cdv)).units < cLine := by omega
  refine ⟨_, pss_cons (ps_if (pt_cmpR op_eq (pv 2) (pe_op op_sub pe_int pe_int) (nomark _)) (pss_one (ps_ret (pe_call G1 hr1 rfl m1 k1 b1 .nil pass0 (pa_cons (pv 1) (pa_cons (pv 3) pa_nil))))) pss_nil) <|
    pss_one (ps_ret (pe_cmpR (op_neNil hu0) (pe_lc (own := [("_law_one", 4)]) (g := gName 4) (by rfl) scLLinks.nd (pi_list (pe_call G2 hr rfl m2 k2 b2 .nil pass0 (pa_cons (pv 0) (pa_cons (pe_ix ix_tup (pe_ix ix_tup (pv 0) pe_int (fun _ _ => rfl)) (pv 2) (fun _ _ => rfl)) (pa_cons (pv 1) pa_nil))))) (blkOk_by (N := nLLinks) (sc := defScope sLLinks) (by decide +kernel)) (fun _ _ _ _ _ => pg_name (i := 4) scLLinks.nd rfl (Or.inl rfl)) (fun _ _ _ _ _ => pts_one (pt_val (pe_call G1 hr1 rfl m1 k1 b1 .nil pass0 (pa_cons (pv 4) (pa_cons (pv 3) pa_nil))))) (fun _ _ _ _ _ => pv 4)) (pe_lst pa_nil) (nomark _))), ?_⟩
  have sl := sizeLine_eq
  have hg := hh.hg
  have zs1 := nmK_str hg hz.nm
  have zs2 := sorts_ok _ hz.so
  have st1 := nmK_str hg ht.nm
  have st2 := sorts_ok _ ht.so
  obtain ⟨dt, rt, ys, hh', hrt, alr⟩ : ∃ dt rt ys, H h = some (.tup [dt, .ref rt]) ∧ H rt = some (.tup ys) ∧ TrAll H ys rs := by
    have th := hh.tr
    cases th with
    | @tup _ hs _ e al =>
    match hs, al with
    | [_, _], .cons _ (.cons (.tup (a := rt) hd ad) .nil) => exact ⟨_, _, _, e, hd, ad⟩
  have yl := alr.length
  refine ⟨_, rfl, _, _, rfl, rfl, rfl, _, rfl, ?_⟩
  unfold leadB at k
  refine ite2 (fun c => ?_) (fun c => ?_)
  · have c1 : by_ = -1 := V.int.inj (of_decide_eq_true c)
    rw [if_pos c1] at k
    exact ⟨_, rfl, _, rfl, a, b, z, t, rfl, ha, hb, zs1, zs2, st1, st2, k⟩
  · have c1 : by_ ≠ -1 := fun e => c (decide_eq_true (by rw [e]; rfl))
    rw [if_neg c1] at k
    obtain ⟨n, rfl⟩ : ∃ n : Nat, by_ = (n : Int) := ⟨by_.toNat, by omega⟩
    have hn : n < ys.length := by omega
    have hyn : ys[n]? = some ys[n] := List.getElem?_eq_getElem hn
    obtain ⟨r, hr', tr⟩ := alr.get hyn
    obtain ⟨ra, era, hR, oR⟩ := rul_of tr (hg.rules r (List.mem_of_getElem? hr'))
    rw [Int.toNat_natCast, hr'] at k
    have k : ∀ H', Same H H' → Q (.bl ((givenR (endsOf ds) (rulOf r) z).any fun u => giveS u t)) H' := k
    have ixr : atI ys ((n : Nat) : Int) = some (.ref ra) := by
      rw [← era]
      exact atI_nat hyn
    refine ⟨_, rfl, _, rfl, h, _, _, _, rfl, rfl, SqT.of hh', (rfl : atI [dt, V.ref rt] 1 = some (.ref rt)), _, rfl, rt, _, _, _, rfl, rfl, SqT.of hrt, ixr, _, rfl, h, ra, a, ds, rs, z, rulOf r, rfl, hh, hR, oR, ha, hz, fun l os H1 s1 hl hl1 says => ?_⟩
    have gok := given_ok (e := endsOf ds) oR hz
    have g2 := given_len (endsOf ds) (rulOf r) z
    generalize givenR (endsOf ds) (rulOf r) z = gs at k says gok g2
    have gl := says.length
    refine ⟨l, rfl, ⟨_, SqL.of hl1⟩, fun D hD => lc_list (K := K) (a := l) (xs := os.map V.ref) (fun i H2 => ∃ vs : List V, H2 D = some (.lst vs) ∧ vs.length ≤ i ∧ vs.isEmpty = !((gs.take i).any fun u => giveS u t) ∧ Same H1 H2)
      ⟨[], upd_same, Nat.le_refl _, rfl, sameNew hD _⟩ (fun i H2 _ ⟨_, _, _, _, s2⟩ => SqL.of (s2 _ _ hl1)) ?_ ?_⟩
    · rintro i y H2 hy ⟨vs, hD2, vl, ve, s2⟩
      rw [List.getElem?_map] at hy
      obtain ⟨oa, hoa, rfl⟩ := Option.map_eq_some_iff.mp hy
      obtain ⟨u, hu, hau⟩ := says_get says hoa
      have us := gok u (List.mem_of_getElem? hu)
      have il := (List.getElem?_eq_some_iff.mp hu).1
      refine ⟨rfl, _, rfl, _, rfl, oa, b, u, t, rfl, s2 _ _ hau, s2 _ _ (s1 _ _ hb), nmK_str hg us.nm, sorts_ok _ us.so, st1, st2, fun H3 s3 => ⟨_, rfl, ?_⟩⟩
      have hD3 := s3 _ _ hD2
      cases c : giveS u t with
      | true =>
        refine iteT ⟨_, rfl, _, hD3, by omega, vs ++ [V.ref oa], upd_same, by rw [List.length_append]; show vs.length + 1 ≤ _; omega, ?_, fun b' o' e => ?_⟩
        · rw [take_more hu, List.any_append]
          simp [c]
        · rw [upd_ne (ne_of_none e hD)]
          exact s3 _ _ (s2 _ _ e)
      | false =>
        refine iteF ⟨vs, hD3, by omega, ?_, s2.trans s3⟩
        rw [take_more hu, List.any_append, ve]
        simp [c]
    · rintro H2 ⟨vs, hD2, _, ve, s2⟩
      rw [List.length_map, gl, List.take_length] at ve
      refine ⟨by show 0 ≤ sizeLine; omega, fun N hN => ?_⟩
      have s3 := sameNew hN (.lst [])
      refine ⟨D, N, _, rfl, rfl, SqL.of (s3 _ _ hD2), SqL.of upd_same, ?_⟩
      rw [ve, Bool.not_not]
      exact k _ (s1.trans (s2.trans s3))
end
end Pk
end
section
set_option maxHeartbeats 1000000
/-! The law's own: is_chain. -/
namespace Pk
open PySem L2
abbrev sLIsChain : Stmt := topH 65
def spLIsChain : Sp := fun vs H Q _ => ∃ (h L : Addr) (ds rs : List PyData) (s0 : Say) (l : List (Say × Int)), vs = [.ref h, .ref L] ∧ HouseAt H h ds rs ∧ Tr H (.ref L) (.list (chainP s0 l)) ∧ ChainK (ds.map nameOf) rs.length s0 l ∧ l.length ≤ 1000 ∧
  ∀ H', Same H H' → Q (.bl (chainB (endsOf ds) rs s0 l)) H'
abbrev nLIC : List Str := ["_law_house_here", "_law_chain_here", "_law_k"]
theorem scLIC : FnScope nLIC ["_law_house_here", "_law_chain_here"] (defScope sLIsChain) := ⟨rfl, rfl, rfl, by decide +kernel, rfl, by decide +kernel, by decide +kernel⟩
section
variable {P : Program} {w : World} {K : PySem.W.Frag} {mg : Str → Option Value} {base : Heap}
theorem ok_lisChain {f g1 : Addr} {fd d1 : FuncData} (F : Fun K "_law_is_chain" "_law_is_chain" sLIsChain f fd) (B : Blt mg)
    (G1 : FnOk P w K mg base CX0 3 g1 d1 ["_law_house_here", "_law_front", "_law_by", "_law_saying_here"] spLLinks) (b1 : Binds K d1 ["_law_house_here", "_law_front", "_law_by", "_law_saying_here"] []) (k1 : PySem.W.keepIn K (.ref g1) = true) (m1 : mg "_law_links" = some (.ref g1)) :
    FnOk P w K mg base CX0 4 f fd ["_law_house_here", "_law_chain_here"] spLIsChain := by
  refine F.ok scLIC (fun vs H Q E h => ?_) (fun cdv A outer s H vs Q E hr h => ?_)
  · obtain ⟨h, L, ds, rs, s0, l, rfl, _⟩ := h
    rfl
  obtain ⟨h, L, ds, rs, s0, l, rfl, hh, tL, hc, hl, k⟩ := h
  refine ⟨_, pss_cons (ps_for PassesOwn.never rfl (pi_range2 (by rfl) B.range (pa_cons pe_int (pa_cons (pe_callB call_len_seq (by rfl) B.len PySem.boot_len (pa_cons (pv 1) pa_nil)) pa_nil))) (pg_name (i := 2) scLIC.nd rfl (.inl rfl))
      (pss_one (ps_if (pt_not (pt_val (pe_call G1 hr rfl m1 k1 b1 .nil pass0 (pa_cons (pv 0) (pa_cons (pe_ix ix_tup (pe_ix ix_list (pv 1) (pe_op op_sub (pv 2) pe_int) (fun _ _ => rfl)) pe_int (fun _ _ => rfl)) (pa_cons (pe_ix ix_tup (pe_ix ix_list (pv 1) (pv 2) (fun _ _ => rfl)) pe_int (fun _ _ => rfl)) (pa_cons (pe_ix ix_tup (pe_ix ix_list (pv 1) (pv 2) (fun _ _ => rfl)) pe_int (fun _ _ => rfl)) pa_nil))))))) (pss_one (ps_ret pe_bl)) pss_nil))) <|
    pss_one (ps_ret pe_bl), ?_⟩
  obtain ⟨xs, ha, al⟩ : ∃ xs, H L = some (.lst xs) ∧ TrAll H xs (chainP s0 l) := by
    cases tL with
    | lst h a => exact ⟨_, h, a⟩
  have xl : xs.length = l.length + 1 := by
    rw [al.length]
    show (l.map _).length + 1 = _
    rw [List.length_map]
  refine ⟨_, rfl, L, _, rfl, .inl (SqL.of ha), 1, _, rfl, ⟨by decide, by decide, by omega, by omega⟩, ?_⟩
  rw [show ((xs.length : Nat) : Int) - 1 = ((l.length : Nat) : Int) by omega, Int.toNat_natCast]
  refine for_range (lo := 1) (n := l.length) (fun i σ H2 => ∃ v2 : Option V, σ = [some (.ref h), some (.ref L), v2] ∧ Same H H2 ∧ (List.range i).all (linkB (endsOf ds) rs s0 l) = true) ⟨none, rfl, Same.refl H, rfl⟩ ?_ ?_
  · rintro i σ H2 hi ⟨v2, rfl, s2, hall⟩
    have hp : l[i]? = some l[i] := List.getElem?_eq_getElem hi
    generalize l[i] = p at hp
    obtain ⟨b, q, v, hx, hb, hq⟩ := chain_front al (i := i) (by omega)
    obtain ⟨y', hx', t'⟩ := chain_link al hp
    obtain ⟨b2, q2, rfl, hb2, hq2⟩ : ∃ b2 q2, y' = .ref b2 ∧ H b2 = some (.tup [.ref q2, .int p.2]) ∧ H q2 = some (.tup (sayV p.1)) := by
      cases t' with
      | @tup b ys _ hb alb =>
      match ys, alb with
      | [_, _], .cons ta (.cons (.int _) .nil) =>
      obtain ⟨q, rfl, hq⟩ := say_tr ta
      exact ⟨b, q, rfl, hb, hq⟩
    have ha3 := s2 _ _ ha
    have hb3 := s2 _ _ hb
    have hb23 := s2 _ _ hb2
    have i1 : atI xs (1 + ((i : Nat) : Int) - 1) = some (.ref b) := by
      rw [show (1 + ((i : Nat) : Int) - 1) = ((i : Nat) : Int) by omega]
      exact atI_nat hx
    have i2 : atI xs (1 + ((i : Nat) : Int)) = some (.ref b2) := by
      rw [show (1 + ((i : Nat) : Int)) = ((i + 1 : Nat) : Int) by omega]
      exact atI_nat hx'
    obtain ⟨c1, c2, c3⟩ := hc.ss p (List.mem_of_getElem? hp)
    refine ⟨_, rfl, _, rfl, _, rfl, _, _, rfl, rfl, L, _, _, _, rfl, rfl, SqL.of ha3, i1, b, _, _, _, rfl, rfl, SqT.of hb3, rfl, _, rfl, _, rfl, L, _, _, _, rfl, rfl, SqL.of ha3, i2, b2, _, _, _, rfl, rfl, SqT.of hb23, (rfl : atI [V.ref q2, V.int p.2] 1 = some (.int p.2)), _, rfl, _, rfl, L, _, _, _, rfl, rfl, SqL.of ha3, i2, b2, _, _, _, rfl, rfl, SqT.of hb23, (rfl : atI [V.ref q2, V.int p.2] 0 = some (.ref q2)), h, q, q2, ds, rs, frontK s0 l i, p.1, p.2, rfl, hh.same s2, s2 _ _ hq, s2 _ _ hq2, front_ok hc i, sayK_sayP c1, c2, c3, fun H4 s4 => ⟨_, rfl, ?_⟩⟩
    have s24 := s2.trans s4
    have lk : linkB (endsOf ds) rs s0 l i = leadB (endsOf ds) rs (frontK s0 l i) p.1 p.2 := by
      unfold linkB
      rw [hp]
    cases e : leadB (endsOf ds) rs (frontK s0 l i) p.1 p.2 with
    | false =>
      refine iteT ?_
      have : chainB (endsOf ds) rs s0 l = false := by
        unfold chainB
        rw [List.all_eq_false]
        exact ⟨i, List.mem_range.mpr hi, by rw [lk, e]; exact Bool.false_ne_true⟩
      have q := k H4 s24
      rw [this] at q
      exact q
    | true =>
      refine iteF ⟨_, rfl, s24, ?_⟩
      rw [List.range_succ, List.all_append, hall, List.all_cons, List.all_nil, Bool.and_true, Bool.true_and, lk, e]
  · rintro σ H2 ⟨v2, rfl, s2, hall⟩
    have q := k H2 s2
    unfold chainB at q
    rw [hall] at q
    exact q
end
end Pk
end
section
set_option maxHeartbeats 1000000
/-! The law's own: numbers by names. -/
namespace Pk
open PySem L2
abbrev sLAt : Stmt := topH 57
/-- numbers by the names -/
def atES (ds : List PyData) (is : List Int) : List (Str × Int) := (ds.map nameOf).zip is
def spLAt : Sp := fun vs H Q _ => ∃ (h a : Addr) (ds rs : List PyData) (is : List Int), vs = [.ref h, .ref a] ∧ HouseAt H h ds rs ∧ H a = some (.tup (is.map V.int)) ∧ is.length = ds.length ∧
  ∀ (dd : Addr) (H' : Hp), Same H H' → H dd = none → H' dd = some (.dK ((atES ds is).map kvOf)) → Q (.ref dd) H'
abbrev nLAt : List Str := ["_law_house_here", "_law_numbers_here", "_law_k"]
theorem scLAt : FnScope nLAt ["_law_house_here", "_law_numbers_here"] (defScope sLAt) := ⟨rfl, rfl, rfl, by decide +kernel, rfl, by decide +kernel, by decide +kernel⟩
section
variable {P : Program} {w : World} {K : PySem.W.Frag} {mg : Str → Option Value} {base : Heap}
theorem ok_lat {f : Addr} {fd : FuncData} (F : Fun K "_law_at" "_law_at" sLAt f fd) (B : Blt mg) : FnOk P w K mg base CX0 1 f fd ["_law_house_here", "_law_numbers_here"] spLAt := by
  refine F.ok scLAt (fun vs H Q E h => ?_) (fun cdv A outer s H vs Q E hr h => ?_)
  · obtain ⟨h, a, ds, rs, is, rfl, _⟩ := h
    rfl
  obtain ⟨h, a, ds, rs, is, rfl, hh, ha, hl, k⟩ := h
  refine ⟨_, pss_one (ps_ret (pe_callTy (call_dictP rfl) (by rfl) B.dict (by decide +kernel) (pa_cons (pe_lc (own := [("_law_k", 2)]) (g := gName 2) (by rfl) scLAt.nd (pi_range1 (by rfl) B.range (pa_cons (pe_callB call_len_seq (by rfl) B.len PySem.boot_len (pa_cons (pv 1) pa_nil)) pa_nil)) (blkOk_by (N := nLAt) (sc := defScope sLAt) (by decide +kernel)) (fun _ _ _ _ _ => pg_name (i := 2) scLAt.nd rfl (Or.inl rfl)) (fun _ _ _ _ _ => pts_nil)
    (fun _ _ _ _ _ => pe_tup (pa_cons (pe_ix (r := rIxT K) ix_tup (pe_ix (r := rIxT K) ix_tup (pe_ix (r := rIxT K) ix_tup (pv 0) pe_int (fun _ _ => rfl)) (pv 2) (fun _ _ => rfl)) pe_int (fun _ _ => rfl)) (pa_cons (pe_ix (r := rIxT K) ix_tup (pv 1) (pv 2) (fun _ _ => rfl)) pa_nil)))) pa_nil))), ?_⟩
  have sl := sizeLine_eq
  have hg := hh.hg
  have d2 := hg.d2
  obtain ⟨dt, xs, rt, hh', hdt, ald⟩ : ∃ dt xs rt, H h = some (.tup [.ref dt, rt]) ∧ H dt = some (.tup xs) ∧ TrAll H xs ds := by
    have th := hh.tr
    cases th with
    | @tup _ hs _ e al =>
    match hs, al with
    | [_, _], .cons (.tup (a := dt) hd ad) (.cons _ .nil) => exact ⟨dt, _, _, e, hd, ad⟩
  have xl := ald.length
  refine ⟨_, rfl, a, _, rfl, .inr (SqT.of ha), _, rfl, by omega, by rw [List.length_map]; omega, ?_⟩
  rw [List.length_map, Int.toNat_natCast]
  refine fun D hD => lc_range (lo := 0) (n := is.length) (fun i H4 => ∃ ps : List Addr, H4 D = some (.lst (ps.map V.ref)) ∧ Paired (fun p (e : Str × Int) => H4 p = some (.tup [V.str e.1, V.int e.2])) ps ((atES ds is).take i) ∧ Same H H4)
    ⟨[], upd_same, .nil, sameNew hD _⟩ ?_ ?_
  · rintro i H4 hi ⟨ps, hD4, pr, s4⟩
    have hx : xs[i]? = some xs[i] := List.getElem?_eq_getElem (by omega)
    obtain ⟨d, hd, td⟩ := ald.get hx
    obtain ⟨b', nm, way, lo, hi', up, dn, eb, hb0, _, _, _, _, ed⟩ := dial_tup td (hg.dials d (List.mem_of_getElem? hd))
    rw [eb] at hx
    have hj : is[i]? = some is[i] := List.getElem?_eq_getElem hi
    have hz : (atES ds is)[i]? = some (nm, is[i]) := by
      unfold atES
      rw [List.getElem?_zip_eq_some, List.getElem?_map, hd, hj, ed]
      exact ⟨rfl, rfl⟩
    have pl := pr.length
    rw [List.length_take] at pl
    have ixd : atI xs (0 + ((i : Nat) : Int)) = some (.ref b') := by rw [Int.zero_add]; exact atI_nat hx
    have ixn : atI (is.map V.int) (0 + ((i : Nat) : Int)) = some (.int is[i]) := by rw [Int.zero_add]; exact atI_nat (by rw [List.getElem?_map, hj]; rfl)
    have hb4 := s4 _ _ hb0
    refine ⟨rfl, _, rfl, h, _, _, _, rfl, rfl, SqT.of (s4 _ _ hh'), (rfl : atI [V.ref dt, rt] 0 = some (.ref dt)), _, rfl, dt, _, _, _, rfl, rfl, SqT.of (s4 _ _ hdt), ixd, b', _, _, _, rfl, rfl, SqT.of hb4, (rfl : atI [V.str nm, V.int lo, V.int hi', V.str way, V.int up, V.int dn] 0 = some (.str nm)), _, rfl, _, rfl, a, _, _, _, rfl, rfl, SqT.of (s4 _ _ ha), ixn, by show 2 ≤ sizeLine; omega, fun t ht => ?_⟩
    have st := sameNew ht (.tup [V.str nm, V.int is[i]])
    have tD : t ≠ D := fun z => by rw [z, hD4] at ht; cases ht
    refine ⟨_, st _ _ hD4, by rw [List.length_map]; omega, ps ++ [t], by rw [upd_same, List.map_append]; rfl, ?_, fun b o e => ?_⟩
    · rw [take_more hz]
      refine .snoc (L2.Paired.mapP pr fun q e hq => ?_) (by rw [upd_ne tD, upd_same])
      rw [upd_ne (fun z => by rw [z, hD4] at hq; cases hq)]
      exact st _ _ hq
    · rw [upd_ne (ne_of_none e hD)]
      exact st _ _ (s4 _ _ e)
  rintro H5 ⟨ps, hD5, pr, s5⟩
  have zl : (atES ds is).length = is.length := by
    unfold atES
    rw [List.length_zip, List.length_map]
    omega
  rw [← zl, List.take_length] at pr
  have eks : (atES ds is).map (·.1) = ds.map nameOf := by
    unfold atES
    exact List.map_fst_zip (by rw [List.length_map]; omega)
  refine ⟨D, ps, (atES ds is).map kvOf, rfl, SqL.of hD5, pairedMap pr fun q e hq => SqT.of hq, fun dd ndd => ?_⟩
  have em : mergeK [] ((atES ds is).map kvOf) = (atES ds is).map kvOf := merge_nd (atES ds is) [] (by rw [List.nil_append, eks]; exact hg.nd)
  rw [em]
  exact k dd _ (s5.trans (sameNew ndd _)) (s5.free ndd) upd_same
end
end Pk
end
section
set_option maxHeartbeats 1000000
/-! What a chain says holds in every standing (numbers only). -/
namespace Pk
open PySem L2
def saidN (v : Str → Int) (s : Say) : Bool := if leastS s = true then decide (s.2.2 ≤ v s.1) else decide (v s.1 ≤ s.2.2)
def rulN (v : Str → Int) : Rul → Bool
  | .one p q => saidN v p || saidN v q
  | .pair w a b c => if w = "off" then decide (v a ≤ v b + c) else if w = "most" then decide (v a + v b ≤ c) else decide (v a + v b ≥ c)
theorem least_of {s : Say} (h : s.2.1 ∈ sorts2) : (leastS s = true ∧ s.2.1 = "least") ∨ (leastS s = false ∧ s.2.1 = "most") := by
  have q : ∀ x ∈ sorts2, x = "least" ∨ x = "most" := by decide +kernel
  rcases q _ h with e | e
  · exact .inl ⟨by unfold leastS; rw [e]; decide +kernel, e⟩
  · exact .inr ⟨by unfold leastS; rw [e]; decide +kernel, e⟩
theorem leastS_mk (z : Str) (i : Int) : leastS (z, "least", i) = true := by show decide (("least" : Str) = "least") = true; decide +kernel
theorem leastS_mk2 (z : Str) (i : Int) : leastS (z, "most", i) = false := by show decide (("most" : Str) = "least") = false; decide +kernel
theorem give_said {v : Str → Int} {s t : Say} (h : giveS s t = true) (hs : saidN v s = true) : saidN v t = true := by
  unfold giveS at h
  rw [Bool.and_eq_true, Bool.and_eq_true, decide_eq_true_eq, decide_eq_true_eq] at h
  obtain ⟨h1, h2, h3⟩ := h
  have e : leastS t = leastS s := by unfold leastS; rw [h2]
  unfold saidN at hs ⊢
  rw [e, ← h1]
  cases c : leastS s with
  | true =>
    rw [c, if_pos rfl, decide_eq_true_eq] at h3 hs
    rw [if_pos rfl, decide_eq_true_eq]
    omega
  | false =>
    rw [c, if_neg Bool.false_ne_true, decide_eq_true_eq] at h3 hs
    rw [if_neg Bool.false_ne_true, decide_eq_true_eq]
    omega
theorem cut_in {v : Str → Int} {q : Int × Int} {s : Say} (h : q.1 ≤ v s.1 ∧ v s.1 ≤ q.2) (hs : saidN v s = true) : (cutE q s).1 ≤ v s.1 ∧ v s.1 ≤ (cutE q s).2 := by
  unfold saidN at hs
  unfold cutE
  cases c : leastS s with
  | true =>
    rw [c, if_pos rfl, decide_eq_true_eq] at hs
    rw [if_pos rfl]
    refine ⟨?_, h.2⟩
    show (if s.2.2 > q.1 then s.2.2 else q.1) ≤ v s.1
    split <;> omega
  | false =>
    rw [c, if_neg Bool.false_ne_true, decide_eq_true_eq] at hs
    rw [if_neg Bool.false_ne_true]
    refine ⟨h.1, ?_⟩
    show v s.1 ≤ (if s.2.2 < q.2 then s.2.2 else q.2)
    split <;> omega
theorem deny_said {e : Str → Int × Int} {v : Str → Int} {s o : Say} (he : (e s.1).1 ≤ v s.1 ∧ v s.1 ≤ (e s.1).2) (hs : saidN v s = true) (h : denyS e s o = true) : saidN v o = false := by
  have c1 := cut_in he hs
  unfold denyS at h
  rw [Bool.or_eq_true] at h
  rcases h with h | h
  · exfalso
    unfold fitN at h
    unfold saidN at hs
    cases c : leastS s with
    | true =>
      rw [c, if_pos rfl, decide_eq_true_eq] at h hs
      omega
    | false =>
      rw [c, if_neg Bool.false_ne_true, decide_eq_true_eq] at h hs
      omega
  · rw [Bool.and_eq_true, decide_eq_true_eq, decide_eq_true_eq] at h
    cases ho : saidN v o with
    | false => rfl
    | true =>
      exfalso
      rw [h.1] at c1
      have c2 := cut_in (s := o) c1 ho
      rw [← h.1] at c2
      omega
theorem given_said {e : Str → Int × Int} {v : Str → Int} {R : Rul} {ns : List Str} {s : Say} (oR : RulOk ns R) (hz : SayH ns s) (he : (e s.1).1 ≤ v s.1 ∧ v s.1 ≤ (e s.1).2) (hr : rulN v R = true) (hs : saidN v s = true) : ∀ t ∈ givenR e R s, saidN v t = true := fun t ht => by
  cases R with
  | one p q =>
    have ht : t ∈ gByOne e s p q := ht
    have hr : (saidN v p || saidN v q) = true := hr
    unfold gByOne at ht
    rcases List.mem_append.mp ht with ht | ht
    · split at ht
      · rename_i d
        rw [List.mem_singleton.mp ht]
        rw [deny_said he hs d, Bool.false_or] at hr
        exact hr
      · cases ht
    · split at ht
      · rename_i d
        rw [List.mem_singleton.mp ht]
        rw [deny_said he hs d, Bool.or_false] at hr
        exact hr
      · cases ht
  | pair w a b c =>
    obtain ⟨h1, h2, h3⟩ := oR
    have hr : (if w = "off" then decide (v a ≤ v b + c) else if w = "most" then decide (v a + v b ≤ c) else decide (v a + v b ≥ c)) = true := hr
    rw [givenR_pair] at ht
    by_cases cw : w = "off"
    · rw [if_pos cw] at ht hr
      rw [decide_eq_true_eq] at hr
      by_cases c1 : s.1 = a ∧ s.2.1 = "least"
      · rw [if_pos c1] at ht
        rw [List.mem_singleton.mp ht]
        have ls : leastS s = true := by unfold leastS; rw [c1.2]; decide +kernel
        unfold saidN at hs ⊢
        rw [ls, if_pos rfl, decide_eq_true_eq, c1.1] at hs
        rw [leastS_mk, if_pos rfl, decide_eq_true_eq]
        show s.2.2 - c ≤ v b
        omega
      · rw [if_neg c1] at ht
        by_cases c2 : s.1 = b ∧ s.2.1 = "most"
        · rw [if_pos c2] at ht
          rw [List.mem_singleton.mp ht]
          have ls : leastS s = false := by unfold leastS; rw [c2.2]; decide +kernel
          unfold saidN at hs ⊢
          rw [ls, if_neg Bool.false_ne_true, decide_eq_true_eq, c2.1] at hs
          rw [leastS_mk2, if_neg Bool.false_ne_true, decide_eq_true_eq]
          show v a ≤ s.2.2 + c
          omega
        · rw [if_neg c2] at ht
          cases ht
    · rw [if_neg cw] at ht hr
      by_cases c1 : s.2.1 = w ∨ ¬ (s.1 = a ∨ s.1 = b)
      · rw [if_pos c1] at ht
        cases ht
      · rw [if_neg c1] at ht
        rw [List.mem_singleton.mp ht]
        have c2 : s.2.1 ≠ w := fun q => c1 (.inl q)
        have c3 : s.1 = a ∨ s.1 = b := Classical.byContradiction fun q => c1 (.inr q)
        have hw : w = "most" ∨ w = "least" := by
          have q : ∀ x ∈ pairs3, x = "off" ∨ (x = "most" ∨ x = "least") := by decide +kernel
          exact (q w h1).elim (fun e => (cw e).elim) id
        have sum : v (if s.1 = a then b else a) = v a + v b - v s.1 := by
          by_cases c4 : s.1 = a
          · rw [if_pos c4, c4]
            omega
          · rw [if_neg c4, c3.resolve_left c4]
            omega
        rcases hw with rfl | rfl
        · rw [if_pos rfl, decide_eq_true_eq] at hr
          rcases least_of hz.so with ⟨l, _⟩ | ⟨_, l⟩
          · unfold saidN at hs ⊢
            rw [l, if_pos rfl, decide_eq_true_eq] at hs
            rw [leastS_mk2, if_neg Bool.false_ne_true, decide_eq_true_eq]
            show v (if s.1 = a then b else a) ≤ c - s.2.2
            omega
          · exact (c2 l).elim
        · rw [if_neg (show ¬ ("least" : Str) = "most" by decide +kernel), decide_eq_true_eq] at hr
          rcases least_of hz.so with ⟨_, l⟩ | ⟨l, _⟩
          · exact (c2 l).elim
          · unfold saidN at hs ⊢
            rw [l, if_neg Bool.false_ne_true, decide_eq_true_eq] at hs
            rw [leastS_mk, if_pos rfl, decide_eq_true_eq]
            show c - s.2.2 ≤ v (if s.1 = a then b else a)
            omega
theorem lead_said {e : Str → Int × Int} {v : Str → Int} {rs : List PyData} {ns : List Str} {s t : Say} {by_ : Int} (hR : ∀ r ∈ rs, RulOk ns (rulOf r) ∧ rulN v (rulOf r) = true) (hz : SayH ns s) (he : (e s.1).1 ≤ v s.1 ∧ v s.1 ≤ (e s.1).2) (h : leadB e rs s t by_ = true) (hs : saidN v s = true) : saidN v t = true := by
  unfold leadB at h
  by_cases c : by_ = -1
  · rw [if_pos c] at h
    exact give_said h hs
  · rw [if_neg c] at h
    cases hr : rs[by_.toNat]? with
    | none => rw [hr] at h; cases h
    | some r =>
      rw [hr] at h
      have h : ((givenR e (rulOf r) s).any fun u => giveS u t) = true := h
      obtain ⟨u, hu, hg⟩ := List.any_eq_true.mp h
      obtain ⟨o1, o2⟩ := hR r (List.mem_of_getElem? hr)
      exact give_said hg (given_said o1 hz he o2 hs u hu)
/-- a chain that holds says at its end what stands wherever its first saying does -/
theorem chain_said {e : Str → Int × Int} {v : Str → Int} {rs : List PyData} {ns : List Str} {n : Nat} {s0 : Say} {l : List (Say × Int)} (hR : ∀ r ∈ rs, RulOk ns (rulOf r) ∧ rulN v (rulOf r) = true) (hc : ChainK ns n s0 l) (he : ∀ z ∈ ns, (e z).1 ≤ v z ∧ v z ≤ (e z).2) (h : chainB e rs s0 l = true) (hs : saidN v s0 = true) : ∀ i, i ≤ l.length → saidN v (frontK s0 l i) = true
  | 0, _ => hs
  | i + 1, hi => by
    have ih := chain_said hR hc he h hs i (by omega)
    have hp : l[i]? = some l[i] := List.getElem?_eq_getElem (by omega)
    have hb := List.all_eq_true.mp h i (List.mem_range.mpr (by omega))
    unfold linkB at hb
    rw [hp] at hb
    have fo := front_ok hc i
    show saidN v (match l[i]? with | some p => p.1 | none => s0) = true
    rw [hp]
    exact lead_said hR fo (he _ fo.nm) hb ih
end Pk
end
section
set_option maxHeartbeats 1000000
/-! The law's own: holds. -/
namespace Pk
open PySem L2
abbrev sLHolds : Stmt := topH 56
section
variable {P : Program} {w : World} {K : PySem.W.Frag} {mg : Str → Option Value} {base : Heap}
abbrev nLHolds : List Str := ["_law_rule_here", "_law_at_here", "_law_word", "_law_one", "_law_other", "_law_by"]
theorem scLHolds : FnScope nLHolds ["_law_rule_here", "_law_at_here"] (defScope sLHolds) := ⟨rfl, rfl, rfl, by decide +kernel, rfl, by decide +kernel, by decide +kernel⟩
theorem ok_lholds {f g : Addr} {fd gd : FuncData} (F : Fun K "_law_holds" "_law_holds" sLHolds f fd) (G : FnOk P w K mg base CX0 1 g gd ["_law_saying_here", "_law_at_here"] spHolds) (bG : Binds K gd ["_law_saying_here", "_law_at_here"] []) (kG : PySem.W.keepIn K (.ref g) = true) (mG : mg "_law_said" = some (.ref g)) : FnOk P w K mg base CX0 2 f fd ["_law_rule_here", "_law_at_here"] spRuleH := by
  refine F.ok scLHolds (fun vs H Q E h => ?_) (fun cdv A outer s H vs Q E hr h => ?_)
  · obtain ⟨x, d, es, sd, rfl, _⟩ := h
    rfl
  obtain ⟨x, d, es, rd, rfl, t, hs, hd, k⟩ := h
  have hu := hu_of hr
  refine ⟨_, pss_cons (ps_if (pt_cmpR op_eq (pe_ix ix_tup (pv 0) pe_int (fun _ _ => rfl)) pe_str (nomark _))
      (pss_one (ps_ret (pe_or (pe_call G hr rfl mG kG bG .nil pass0 (pa_cons (pe_ix ix_tup (pv 0) pe_int (fun _ _ => rfl)) (pa_cons (pv 1) pa_nil))) (pe_one (pe_call G hr rfl mG kG bG .nil pass0 (pa_cons (pe_ix ix_tup (pv 0) pe_int (fun _ _ => rfl)) (pa_cons (pv 1) pa_nil))))))) pss_nil) <|
    pss_cons (ps_asg (pv 0) (pg_tup (by rfl) (pgs_cons (pg_name (i := 2) scLHolds.nd rfl (.inl rfl)) <| pgs_cons (pg_name (i := 3) scLHolds.nd rfl (.inl rfl)) <| pgs_cons (pg_name (i := 4) scLHolds.nd rfl (.inl rfl)) <| pgs_cons (pg_name (i := 5) scLHolds.nd rfl (.inl rfl)) pgs_nil))) <|
    pss_cons (ps_if (pt_cmpR op_eq (pv 2) pe_str (nomark _)) (pss_one (ps_ret (pe_cmpR op_le (pe_dget hu (pv 1) (pv 3) (fun _ _ => rfl)) (pe_op op_add (pe_dget hu (pv 1) (pv 4) (fun _ _ => rfl)) (pv 5)) (nomark _)))) pss_nil) <|
    pss_one (ps_ret (pe_ifExp (pt_cmpR op_eq (pv 2) pe_str (nomark _)) (pe_cmpR op_le (pe_op op_add (pe_dget hu (pv 1) (pv 3) (fun _ _ => rfl)) (pe_dget hu (pv 1) (pv 4) (fun _ _ => rfl))) (pv 5) (nomark _)) (pe_cmpR op_ge (pe_op op_add (pe_dget hu (pv 1) (pv 3) (fun _ _ => rfl)) (pe_dget hu (pv 1) (pv 4) (fun _ _ => rfl))) (pv 5) (nomark _)))), ?_⟩
  rcases rule_is hs with ⟨p, q, rfl, h1, h2⟩ | ⟨w', a, b, c, rfl, hw, ha, hb⟩
  · obtain ⟨pa, u, v, y, rfl, hp, t1, t2, t3⟩ := tup3 t
    cases t1.strV
    have e : ruleH (lookE es) (.tuple [.str "one", p, q]) = (holdsS (lookE es) p || holdsS (lookE es) q) := rfl
    rw [e] at k
    refine ⟨_, rfl, pa, _, _, _, rfl, rfl, SqT.of hp, (rfl : atI [V.str "one", v, y] 0 = some (V.str "one")), rfl, _, rfl, iteT ?_⟩
    refine ⟨_, rfl, pa, _, _, _, rfl, rfl, SqT.of hp, (rfl : atI [V.str "one", v, y] 1 = some v), _, rfl, v, d, es, p, rfl, t2, h1, hd, _, rfl, ?_⟩
    cases c1 : holdsS (lookE es) p with
    | true =>
      rw [c1] at k
      exact iteT k
    | false =>
      rw [c1] at k
      exact iteF ⟨_, rfl, pa, _, _, _, rfl, rfl, SqT.of hp, (rfl : atI [V.str "one", v, y] 2 = some y), _, rfl, y, d, es, q, rfl, t3, h2, hd, k⟩
  · obtain ⟨pa, u, v, y, z, rfl, hp, t1, t2, t3, t4⟩ := tup4 t
    cases t1.strV
    cases t2.strV
    cases t3.strV
    cases t4.intV
    have e : ruleH (lookE es) (.tuple [.str w', .str a, .str b, .int c]) = if decide (w' = "off") = true then decide (lookE es a ≤ lookE es b + c) else if decide (w' = "most") = true then decide (lookE es a + lookE es b ≤ c) else decide (c ≤ lookE es a + lookE es b) := rfl
    rw [e] at k
    have da := look_dg hd ha
    have db := look_dg hd hb
    refine ⟨_, rfl, pa, _, _, _, rfl, rfl, SqT.of hp, (rfl : atI [V.str w', V.str a, V.str b, V.int c] 0 = some (V.str w')), rfl, _, rfl, ?_⟩
    refine ite2 (fun c1 => ?_) (fun _ => ?_)
    · have q := pairs_one w' hw
      have q2 : w' = ("one" : Str) := by simpa using c1
      rw [decide_eq_true q2] at q
      cases q
    refine ⟨_, rfl, pa, _, rfl, SqT.of hp, rfl, _, _, rfl, _, _, rfl, _, _, rfl, _, _, rfl, rfl, ?_⟩
    refine ⟨_, rfl, rfl, _, rfl, ?_⟩
    refine ite2 (fun c1 => ?_) (fun c1 => ?_)
    · have c' : decide (w' = ("off" : Str)) = true := by simpa using c1
      rw [if_pos c'] at k
      exact ⟨_, rfl, _, rfl, d, _, rfl, da, _, rfl, _, rfl, d, _, rfl, db, _, rfl, _, _, rfl, rfl, _, _, rfl, rfl, k⟩
    have c' : ¬ decide (w' = ("off" : Str)) = true := by simpa using c1
    rw [if_neg c'] at k
    refine ⟨_, rfl, rfl, _, rfl, ?_⟩
    refine ite2 (fun c2 => ?_) (fun c2 => ?_)
    · have c' : decide (w' = ("most" : Str)) = true := by simpa using c2
      rw [if_pos c'] at k
      exact ⟨_, rfl, _, rfl, d, _, rfl, da, _, rfl, _, rfl, d, _, rfl, db, _, _, rfl, rfl, _, rfl, _, _, rfl, rfl, k⟩
    · have c' : ¬ decide (w' = ("most" : Str)) = true := by simpa using c2
      rw [if_neg c'] at k
      exact ⟨_, rfl, _, rfl, d, _, rfl, da, _, rfl, _, rfl, d, _, rfl, db, _, _, rfl, rfl, _, rfl, _, _, rfl, rfl, k⟩
end
end Pk
end
section
set_option maxHeartbeats 1000000
/-! The law's own: stands. -/
namespace Pk
open PySem L2
abbrev sLStands : Stmt := topH 58
/-- numbers that stand -/
def standR (ds rs : List PyData) (is : List Int) : Prop := (∀ d ∈ ds, (endsD d).1 ≤ lookE (atES ds is) (nameOf d) ∧ lookE (atES ds is) (nameOf d) ≤ (endsD d).2) ∧ ∀ r ∈ rs, ruleH (lookE (atES ds is)) r = true
def spLStandsK : Sp := fun vs H Q _ => ∃ (h a : Addr) (ds rs : List PyData) (is : List Int), vs = [.ref h, .ref a] ∧ HouseAt H h ds rs ∧ H a = some (.tup (is.map V.int)) ∧ is.length = ds.length ∧
  ∀ (b : Bool) (H' : Hp), Same H H' → (b = true → standR ds rs is) → Q (.bl b) H'
abbrev nLStands : List Str := ["_law_house_here", "_law_numbers_here", "_law_at_here", "_law_dial", "_law_rule_here"]
theorem scLStands : FnScope nLStands ["_law_house_here", "_law_numbers_here"] (defScope sLStands) := ⟨rfl, rfl, rfl, by decide +kernel, rfl, by decide +kernel, by decide +kernel⟩
section
variable {P : Program} {w : World} {K : PySem.W.Frag} {mg : Str → Option Value} {base : Heap}
theorem ok_lstandsK {f g1 g2 : Addr} {fd d1 d2 : FuncData} (F : Fun K "_law_stands" "_law_stands" sLStands f fd)
    (G1 : FnOk P w K mg base CX0 1 g1 d1 ["_law_house_here", "_law_numbers_here"] spLAt) (b1 : Binds K d1 ["_law_house_here", "_law_numbers_here"] []) (k1 : PySem.W.keepIn K (.ref g1) = true) (m1 : mg "_law_at" = some (.ref g1))
    (G2 : FnOk P w K mg base CX0 2 g2 d2 ["_law_rule_here", "_law_at_here"] spRuleH) (b2 : Binds K d2 ["_law_rule_here", "_law_at_here"] []) (k2 : PySem.W.keepIn K (.ref g2) = true) (m2 : mg "_law_holds" = some (.ref g2)) :
    FnOk P w K mg base CX0 3 f fd ["_law_house_here", "_law_numbers_here"] spLStandsK := by
  refine F.ok scLStands (fun vs H Q E h => ?_) (fun cdv A outer s H vs Q E hr h => ?_)
  · obtain ⟨h, a, ds, rs, is, rfl, _⟩ := h
    rfl
  obtain ⟨h, a, ds, rs, is, rfl, hh, ha, hl, k⟩ := h
  have hr1 : Room 1 _ := hr.mono (by decide)
  have hu := hu_of hr
  have hu0 : (A.deeper (PyProof.Rows.envOfC "_law_stands" (defScope sLStands) s.heap.objs.size f cdv)).units < cLine := by omega
  refine ⟨_, pss_cons (ps_set (i := 2) scLStands.nd rfl (.inr rfl) (pe_call G1 hr1 rfl m1 k1 b1 .nil pass0 (pa_cons (pv 0) (pa_cons (pv 1) pa_nil)))) <|
    pss_cons (ps_if (pt_cmpR (op_neNil hu0) (pe_lc (own := [("_law_dial", 3)]) (g := gName 3) (by rfl) scLStands.nd (pi_tup (pe_ix ix_tup (pv 0) pe_int (fun _ _ => rfl))) (blkOk_by (N := nLStands) (sc := defScope sLStands) (by decide +kernel)) (fun _ _ _ _ _ => pg_name (i := 3) scLStands.nd rfl (Or.inl rfl))
      (fun _ _ _ _ _ => pts_one (pt_not (pt_chain op_le op_le (pe_ix (r := rIxT K) ix_tup (pv 3) pe_int (fun _ _ => rfl)) (pe_dget hu (pv 2) (pe_ix (r := rIxT K) ix_tup (pv 3) pe_int (fun _ _ => rfl)) (fun _ _ => rfl)) (pe_ix (r := rIxT K) ix_tup (pv 3) pe_int (fun _ _ => rfl))))) (fun _ _ _ _ _ => pv 3)) (pe_lst pa_nil) (nomark _)) (pss_one (ps_ret pe_bl)) pss_nil) <|
    pss_one (ps_ret (pe_cmpR (op_eqNil hu0) (pe_lc (own := [("_law_rule_here", 4)]) (g := gName 4) (by rfl) scLStands.nd (pi_tup (pe_ix ix_tup (pv 0) pe_int (fun _ _ => rfl))) (blkOk_by (N := nLStands) (sc := defScope sLStands) (by decide +kernel)) (fun _ _ _ _ _ => pg_name (i := 4) scLStands.nd rfl (Or.inl rfl))
      (fun _ _ _ _ _ => pts_one (pt_not (pt_val (pe_call G2 hr rfl m2 k2 b2 .nil pass0 (pa_cons (pv 4) (pa_cons (pv 2) pa_nil)))))) (fun _ _ _ _ _ => pv 4)) (pe_lst pa_nil) (nomark _))), ?_⟩
  have sl := sizeLine_eq
  have hg := hh.hg
  have d2 := hg.d2
  have r2 := hg.r2
  obtain ⟨dt, rt, xs, ys, hh', hdt, hrt, ald, alr⟩ : ∃ dt rt xs ys, H h = some (.tup [.ref dt, .ref rt]) ∧ H dt = some (.tup xs) ∧ H rt = some (.tup ys) ∧ TrAll H xs ds ∧ TrAll H ys rs := by
    have th := hh.tr
    cases th with
    | @tup _ hs _ e al =>
    match hs, al with
    | [_, _], .cons (.tup (a := dt) hd ad) (.cons (.tup (a := rt) hr ar) .nil) => exact ⟨dt, rt, _, _, e, hd, hr, ad, ar⟩
  have eks : (atES ds is).map (·.1) = ds.map nameOf := by
    unfold atES
    exact List.map_fst_zip (by rw [List.length_map]; omega)
  refine ⟨_, rfl, _, rfl, h, a, ds, rs, is, rfl, hh, ha, hl, fun dd H1 s1 d0 hd => ?_⟩
  refine ⟨_, rfl, h, _, _, _, rfl, rfl, SqT.of (s1 _ _ hh'), (rfl : atI [V.ref dt, V.ref rt] 0 = some (.ref dt)), dt, rfl, ⟨_, SqT.of (s1 _ _ hdt)⟩, fun D hD => lc_tup (K := K) (a := dt) (xs := xs) (fun i H2 => ∃ vs : List V, H2 D = some (.lst vs) ∧ vs.length ≤ i ∧ (vs = [] → ∀ d ∈ ds.take i, (endsD d).1 ≤ lookE (atES ds is) (nameOf d) ∧ lookE (atES ds is) (nameOf d) ≤ (endsD d).2) ∧ Same H1 H2)
    ⟨[], upd_same, Nat.le_refl _, (fun _ d hd => by simp at hd), sameNew hD _⟩ (fun i H2 _ ⟨_, _, _, _, s2⟩ => SqT.of (s2 _ _ (s1 _ _ hdt))) ?_ ?_⟩
  · rintro i x H2 hx ⟨vs, hD2, vl, vb, s2⟩
    obtain ⟨d, hd', td⟩ := ald.get hx
    obtain ⟨b', nm, way, lo, hi', up, dn, eb, hb0, _, _, _, _, ed⟩ := dial_tup td (hg.dials d (List.mem_of_getElem? hd'))
    subst eb
    have il := (List.getElem?_eq_some_iff.mp hd').1
    have hb2 := s2 _ _ (s1 _ _ hb0)
    have hdd2 := s2 _ _ hd
    have dg := look_dg hdd2 (z := nm) (by rw [eks]; exact List.mem_map.mpr ⟨d, List.mem_of_getElem? hd', by rw [ed]; rfl⟩)
    have i0 : atI [V.str nm, V.int lo, V.int hi', V.str way, V.int up, V.int dn] 0 = some (.str nm) := rfl
    have i1 : atI [V.str nm, V.int lo, V.int hi', V.str way, V.int up, V.int dn] 1 = some (.int lo) := rfl
    have i2 : atI [V.str nm, V.int lo, V.int hi', V.str way, V.int up, V.int dn] 2 = some (.int hi') := rfl
    have out : ∃ acc, H2 D = some (.lst acc) ∧ acc.length < sizeLine ∧ ∃ vs : List V, L2.upd H2 D (.lst (acc ++ [V.ref b'])) D = some (.lst vs) ∧ vs.length ≤ i + 1 ∧ (vs = [] → ∀ d ∈ ds.take (i + 1), (endsD d).1 ≤ lookE (atES ds is) (nameOf d) ∧ lookE (atES ds is) (nameOf d) ≤ (endsD d).2) ∧ Same H1 (L2.upd H2 D (.lst (acc ++ [V.ref b']))) := by
      refine ⟨vs, hD2, by omega, vs ++ [V.ref b'], upd_same, by rw [List.length_append]; show vs.length + 1 ≤ _; omega, fun e => by simp at e, fun b o e => ?_⟩
      rw [upd_ne (ne_of_none e hD)]
      exact s2 _ _ e
    refine ⟨rfl, _, rfl, b', _, _, _, rfl, rfl, SqT.of hb2, i1, _, rfl, _, rfl, b', _, _, _, rfl, rfl, SqT.of hb2, i0, dd, _, rfl, dg, _, _, rfl, rfl, _, rfl, ?_⟩
    by_cases c1 : lo ≤ lookE (atES ds is) nm
    · rw [decide_eq_true c1]
      refine iteT ⟨_, rfl, b', _, _, _, rfl, rfl, SqT.of hb2, i2, _, _, rfl, rfl, _, rfl, ?_⟩
      by_cases c2 : lookE (atES ds is) nm ≤ hi'
      · rw [decide_eq_true c2]
        refine iteF ⟨vs, hD2, by omega, fun e d' hd'' => ?_, s2⟩
        rw [take_more hd'] at hd''
        rcases List.mem_append.mp hd'' with q | q
        · exact vb e d' q
        · rw [List.mem_singleton.mp q, ed]
          exact ⟨c1, c2⟩
      · rw [decide_eq_false c2]
        exact iteT ⟨_, rfl, out⟩
    · rw [decide_eq_false c1]
      exact iteF ⟨_, rfl, iteT ⟨_, rfl, out⟩⟩
  rintro H2 ⟨vs, hD2, _, vb, s2⟩
  rw [ald.length, List.take_length] at vb
  refine ⟨by show 0 ≤ sizeLine; omega, fun N hN => ?_⟩
  have s3 := s2.trans (sameNew hN (.lst []))
  refine ⟨D, N, _, rfl, rfl, SqL.of (sameNew hN _ _ _ hD2), SqL.of upd_same, _, rfl, ?_⟩
  have s13 := s1.trans s3
  generalize L2.upd H2 N (.lst []) = H3 at s3 s13
  cases vs with
  | cons v vs => exact iteT (k false H3 s13 fun e => by cases e)
  | nil =>
    have vb := vb rfl
    refine iteF ⟨_, rfl, h, _, _, _, rfl, rfl, SqT.of (s13 _ _ hh'), (rfl : atI [V.ref dt, V.ref rt] 1 = some (.ref rt)), rt, rfl, ⟨_, SqT.of (s13 _ _ hrt)⟩, fun D2 hD2' => lc_tup (K := K) (a := rt) (xs := ys) (fun i H4 => ∃ vs : List V, H4 D2 = some (.lst vs) ∧ vs.length ≤ i ∧ (vs = [] → ∀ r ∈ rs.take i, ruleH (lookE (atES ds is)) r = true) ∧ Same H3 H4)
      ⟨[], upd_same, Nat.le_refl _, (fun _ d hd => by simp at hd), sameNew hD2' _⟩ (fun i H4 _ ⟨_, _, _, _, s4⟩ => SqT.of (s4 _ _ (s13 _ _ hrt))) ?_ ?_⟩
    · rintro i x H4 hx ⟨vs, hE, vl, ve, s4⟩
      obtain ⟨r, hr', tr⟩ := alr.get hx
      have il := (List.getElem?_eq_some_iff.mp hr').1
      have rd := (hg.rules r (List.mem_of_getElem? hr')).rule
      rw [← eks] at rd
      refine ⟨rfl, _, rfl, _, rfl, x, dd, atES ds is, r, rfl, tr.same (s13.trans s4), rd, s4 _ _ (s3 _ _ hd), _, rfl, ?_⟩
      cases c : ruleH (lookE (atES ds is)) r with
      | true =>
        refine iteF ⟨vs, hE, by omega, fun e r' hr'' => ?_, s4⟩
        rw [take_more hr'] at hr''
        rcases List.mem_append.mp hr'' with q | q
        · exact ve e r' q
        · rw [List.mem_singleton.mp q]
          exact c
      | false =>
        refine iteT ⟨_, rfl, vs, hE, by omega, vs ++ [x], upd_same, by rw [List.length_append]; show vs.length + 1 ≤ _; omega, fun e => by simp at e, fun b o e => ?_⟩
        rw [upd_ne (ne_of_none e hD2')]
        exact s4 _ _ e
    rintro H4 ⟨vs, hE, _, ve, s4⟩
    rw [alr.length, List.take_length] at ve
    refine ⟨by show 0 ≤ sizeLine; omega, fun N2 hN2 => ?_⟩
    have s5 := s4.trans (sameNew hN2 (.lst []))
    refine ⟨D2, N2, vs, rfl, rfl, SqL.of (sameNew hN2 _ _ _ hE), SqL.of upd_same, ?_⟩
    exact k vs.isEmpty _ (s13.trans s5) fun e => ⟨vb, ve (List.isEmpty_iff.mp e)⟩
end
end Pk
end
section
set_option maxHeartbeats 1000000
/-! A standing, and what chain_said asks of it. -/
namespace Pk
open PySem L2
theorem holds_said {f : Str → Int} (s : Say) : holdsS f (sayP s) = saidN f s := by
  show (if decide (s.2.1 = "least") = true then decide (s.2.2 ≤ f s.1) else decide (f s.1 ≤ s.2.2)) = _
  rfl
theorem rul_holds {f : Str → Int} {ns : List Str} {r : PyData} (h : ruleD ns r = true) : rulN f (rulOf r) = ruleH f r := by
  rcases rule_is h with ⟨p, q, rfl, h1, h2⟩ | ⟨w, a, b, c, rfl, _⟩
  · obtain ⟨_, e1, _⟩ := sayK_of h1
    obtain ⟨_, e2, _⟩ := sayK_of h2
    show (saidN f (sayOf p) || saidN f (sayOf q)) = (holdsS f p || holdsS f q)
    rw [← holds_said, ← holds_said, ← e1, ← e2]
  · have e : ruleH f (.tuple [.str w, .str a, .str b, .int c]) = if decide (w = "off") = true then decide (f a ≤ f b + c) else if decide (w = "most") = true then decide (f a + f b ≤ c) else decide (c ≤ f a + f b) := rfl
    rw [e]
    show (if w = "off" then decide (f a ≤ f b + c) else if w = "most" then decide (f a + f b ≤ c) else decide (f a + f b ≥ c)) = _
    simp only [decide_eq_true_eq, ge_iff_le]
end Pk
end
section
set_option maxHeartbeats 1000000
/-! sum(lists, []): the lists joined. -/
namespace Pk
open PySem PySem.Spec PyProof.Rows L2
theorem args_sum2 (a b : Value) : argsOk "sum" ⟨[a, b], []⟩ := by unfold argsOk; kernel_rfl
theorem sub_list_str : isSubtype (.type "list") (.type "str") = pure false := by rw [isSubtype_type]; kernel_rfl
theorem sub_list_bytes : isSubtype (.type "list") (.type "bytes") = pure false := by rw [isSubtype_type]; kernel_rfl
theorem sub_list_bytearray : isSubtype (.type "list") (.type "bytearray") = pure false := by rw [isSubtype_type]; kernel_rfl
section
variable {prog : Program} {w : World} {A : Around} {E : Value → Shared → Prop} {R : Result → Shared → Prop}
/-- lists at addresses -/
def LsAt (h : Heap) (ps : List Addr) (uss : List (List Value)) : Prop := ∀ (j : Nat) (p : Addr) (us : List Value), ps[j]? = some p → uss[j]? = some us → ∃ n, IsL h p us.toArray n
theorem LsAt.to {h h' : Heap} {ps : List Addr} {uss : List (List Value)} (a : LsAt h ps uss) (k : ∀ p ∈ ps, ∀ o, h.get? p = some o → h'.get? p = some o) : LsAt h' ps uss := fun j p us hp hu =>
  let ⟨n, e⟩ := a j p us hp hu
  ⟨n, k p (List.mem_of_getElem? hp) _ e⟩
theorem sum_loopL {I a S : Addr} {ps : List Addr} {uss : List (List Value)} (hh : A.handled = none) (hne : a ≠ I) (hSI : S ≠ I) (hSa : S ≠ a) (hl : ps.length = uss.length) (hp : ∀ p ∈ ps, p ≠ I ∧ p ≠ S) :
    ∀ (k i : Nat) (s : Shared) (q : Addr) (acc : List Value) (c nq : Nat), ps.length - i = k → i ≤ ps.length → (s.heap.IsListIter I a i ∧ s.heap.IsList a (ps.map Value.ref).toArray) →
    IsL s.heap S #[.ref q] c → IsL s.heap q acc.toArray nq → q ≠ S → q ≠ I → LsAt s.heap ps uss → acc.length + (uss.drop i).flatten.length ≤ sizeLine →
    (∀ h' tk q' nq', (∀ b o, b ≠ S → b ≠ I → s.heap.get? b = some o → h'.get? b = some o) → IsL h' q' (acc ++ (uss.drop i).flatten).toArray nq' → ((i = ps.length ∧ q' = q) ∨ S < q') → R (.ok (.ret (.ref q'))) { s with heap := h', toks := tk }) →
    codeAny (model prog w) A (.builtin "sum.loop" ⟨[.ref I, .ref S, rawInt 2, rawInt 0], []⟩) R s := by
  have W := Walks.list (prog := prog) (w := w) (A := A.in1) hh I a hne (ps.map Value.ref).toArray
  have hsz : (ps.map Value.ref).toArray.size = ps.length := by rw [List.size_toArray, List.length_map]
  rw [hsz] at W
  intro k
  induction k with
  | zero =>
    intro i s q acc c nq hk hi hst hS hq hqS hqI hls hz hR
    have hin : i = ps.length := by omega
    subst hin
    refine codeAny_builtin PySem.F.entry_sum_loop ?_
    rw [Around.under_plainId PySem.F.plain_sum_loop _]
    show wpAny _ A.in1 (seqItems? (.ref S) >>= _) _ _ s
    refine wpAny_bind (wpAny_seqItems hS rfl ?_)
    show wpAny _ A.in1 (tryCatch (pyNext (.ref I)) _ >>= _) _ _ s
    refine wpAny_bind (wpAny_tryCatch (W.done s _ _ hst fun h' tk hk' => ?_))
    refine wpAny_pure (hR h' tk q nq (fun b o _ hb e => hk' b o (by simpa using hb) e) ?_ (.inl ⟨rfl, rfl⟩))
    have e : uss.drop ps.length = [] := by rw [hl]; exact List.drop_length
    rw [e]
    simp only [List.flatten_nil, List.append_nil]
    exact hk' _ _ (by simpa using hqI) hq
  | succ k ih =>
    intro i s q acc c nq hk hi hst hS hq hqS hqI hls hz hR
    have hlt : i < ps.length := by omega
    refine codeAny_builtin PySem.F.entry_sum_loop ?_
    rw [Around.under_plainId PySem.F.plain_sum_loop _]
    show wpAny _ A.in1 (seqItems? (.ref S) >>= _) _ _ s
    refine wpAny_bind (wpAny_seqItems hS rfl ?_)
    show wpAny _ A.in1 (tryCatch (pyNext (.ref I)) _ >>= _) _ _ s
    refine wpAny_bind (wpAny_tryCatch (W.item i s _ _ hlt hst fun v h' tk hP hst' hk' => ?_))
    have hpi : ps[i]? = some ps[i] := List.getElem?_eq_getElem hlt
    have hui : uss[i]? = some (uss[i]'(by omega)) := List.getElem?_eq_getElem (by omega)
    generalize ps[i] = p at hpi
    generalize (uss[i]'(by omega)) = us at hui
    obtain rfl : v = .ref p := by
      have h2 : (ps.map Value.ref).toArray[i]? = some v := hP
      rw [List.getElem?_toArray, List.getElem?_map, hpi] at h2
      exact (Option.some.inj h2).symm
    have keep : ∀ b o, b ≠ I → s.heap.get? b = some o → h'.get? b = some o := fun b o hb e => hk' b o (by simpa using hb) e
    have hS' := keep _ _ hSI hS
    have hq' := keep _ _ hqI hq
    obtain ⟨np, hpa⟩ := hls i p us hpi hui
    obtain ⟨hpI, hpS⟩ := hp p (List.mem_of_getElem? hpi)
    have hpa' := keep _ _ hpI hpa
    have hdr : uss.drop i = us :: uss.drop (i + 1) := by
      rw [List.drop_eq_getElem_cons (by omega)]
      congr 1
      exact Option.some.inj ((List.getElem?_eq_getElem (by omega)).symm.trans hui)
    rw [hdr] at hz hR
    simp only [List.flatten_cons, List.length_append] at hz hR
    show wpAny _ A.in1 ((holding [Value.ref p] (binaryOp .Add (.ref q) (.ref p))).attempt >>= _) _ _ _
    refine wpAny_bind (wpAny_attempt (wpAny_holding (PySem.P.add_list hq' hpa' ?_ (by rw [List.size_toArray, List.size_toArray]; omega))))
    have ea : acc.toArray ++ us.toArray = (acc ++ us).toArray := by simp
    rw [ea]
    have hS1 : IsL (h'.push { cls := .type "list", data := .seq (acc ++ us).toArray }) S #[.ref q] c := IsL.push hS' _
    have hn1 : IsL (h'.push { cls := .type "list", data := .seq (acc ++ us).toArray }) h'.objs.size (acc ++ us).toArray 0 := IsL.new _ _
    have hS9 : S < h'.objs.size := Heap.lt_size hS'
    have hI9 : I < h'.objs.size := by
      obtain ⟨o, e, _⟩ := hst'.1
      exact Heap.lt_size e
    have k1 : ∀ b o, h'.get? b = some o → (h'.push { cls := .type "list", data := .seq (acc ++ us).toArray }).get? b = some o := fun b o e => Heap.get?_push_of_some _ e
    generalize hg : h'.push { cls := .type "list", data := .seq (acc ++ us).toArray } = g at hS1 hn1 k1
    show wpAny _ A.in1 (updateSeq S (fun _ => #[.ref h'.objs.size]) >>= _) _ _ _
    refine wpAny_bind (wpAny_updateSeq hS1 rfl ?_)
    have hS₂ := Heap.get?_update_self (Obj.mapSeq fun _ => #[Value.ref h'.objs.size]) hS1 rfl
    refine wpAny_bind (wpAny_letGo ?_)
    have oth : ∀ b o, b ≠ S → g.get? b = some o → ((g.update S (Obj.mapSeq fun _ => #[Value.ref h'.objs.size])).update S (Obj.mapSeq fun _ => #[Value.ref h'.objs.size])).get? b = some o := fun b o hb e =>
      (Heap.get?_update_other _ _ (Ne.symm hb)).trans ((Heap.get?_update_other _ _ (Ne.symm hb)).trans e)
    have hS₃ := Heap.get?_update_self (Obj.mapSeq fun _ => #[Value.ref h'.objs.size]) hS₂ rfl
    refine wpAny_bind (wpAny_updateSeq hS₂ rfl (wpAny_pure ⟨plainId_quiet PySem.F.plain_sum_loop _, ih (i + 1) _ h'.objs.size (acc ++ us) _ 0 (by omega) hlt ⟨?_, ?_⟩ hS₃ (oth _ _ (Nat.ne_of_gt hS9) hn1) (Nat.ne_of_gt hS9) (Nat.ne_of_gt hI9) ?_ ?_ fun h'' tk'' q'' nq'' kk hq'' hor => ?_⟩))
    · obtain ⟨o, e, r⟩ := hst'.1
      exact ⟨o, oth _ _ (Ne.symm hSI) (k1 _ _ e), r⟩
    · obtain ⟨o, e, r⟩ := hst'.2
      exact ⟨o, oth _ _ (Ne.symm hSa) (k1 _ _ e), r⟩
    · exact hls.to fun b hb o e => oth _ _ (hp b hb).2 (k1 _ _ (keep _ _ (hp b hb).1 e))
    · rw [List.length_append]
      omega
    · rw [List.append_assoc] at hq''
      refine hR h'' tk'' q'' nq'' (fun b o h1 h2 e => kk b o h1 h2 (oth _ _ h1 (k1 _ _ (keep _ _ h2 e)))) hq'' (.inr ?_)
      rcases hor with ⟨_, hor⟩ | hor
      · rw [hor]
        exact hS9
      · exact hor
theorem call_sumL {a b : Addr} {ps : List Addr} {uss : List (List Value)} {nb : Nat} {s : Shared} {Q : Value → Shared → Prop} (hh : A.handled = none) (ha : s.heap.IsList a (ps.map Value.ref).toArray) (hb : IsL s.heap b #[] nb) (hl : ps.length = uss.length) (hne : ps ≠ []) (hls : LsAt s.heap ps uss) (hz : uss.flatten.length ≤ sizeLine)
    (h : ∀ h' tk q' nq', (∀ b o, s.heap.get? b = some o → h'.get? b = some o) → IsL h' q' uss.flatten.toArray nq' → s.heap.objs.size ≤ q' → Q (.ref q') { s with heap := h', toks := tk }) :
    wpAny (model prog w) A (call (.builtin "sum") [.ref a, .ref b]) Q E s := by
  refine call_function_tree PySem.F.kind_sum PySem.F.plain_sum PySem.F.entry_sum (args_sum2 _ _) ?_
  unfold Builtin.«sum»
  simp only [List.length_cons, List.length_nil]
  rw [if_neg (by decide)]
  refine wpAny_bind (wpAny_of_eq (show Builtin.Builtins.bindParams "sum" ["start"] 0 ⟨[.ref b], []⟩ = pure [some (.ref b)] from rfl) ?_)
  refine wpAny_bind (wpAny_pyIter_list ha ?_)
  have a9 : a < s.heap.objs.size := let ⟨_, e, _⟩ := ha; Heap.lt_size e
  have b9 : b < s.heap.objs.size := Heap.lt_size hb
  have k1 : ∀ c o, s.heap.get? c = some o → (s.heap.push { cls := .type "list_iterator", data := .fields #[.ref a, .int 0 0] }).get? c = some o := fun c o e => Heap.get?_push_of_some _ e
  have hI : (s.heap.push { cls := .type "list_iterator", data := .fields #[.ref a, .int 0 0] }).get? s.heap.objs.size = some { cls := .type "list_iterator", data := .fields #[.ref a, .int 0 0] } := Heap.get?_push_size _ rfl
  have gsz : s.heap.objs.size < (s.heap.push { cls := .type "list_iterator", data := .fields #[.ref a, .int 0 0] }).objs.size := Heap.lt_size hI
  generalize s.heap.push { cls := .type "list_iterator", data := .fields #[.ref a, .int 0 0] } = g at k1 hI gsz
  have hty : ({ s with heap := g } : Shared).TypeIs (.ref b) "list" := ⟨_, k1 _ _ hb, rfl⟩
  refine wpAny_bind (wpAny_pure ?_)
  simp only [List.forIn_cons, List.forIn_nil]
  refine wpAny_bind (wpAny_bind (wpAny_bind (wpAny_isInstance (T := "list") (b := false) hty sub_list_str ?_)))
  simp only [Bool.false_eq_true, if_false]
  refine wpAny_pure (wpAny_bind (wpAny_bind (wpAny_isInstance (T := "list") (b := false) hty sub_list_bytes ?_)))
  simp only [Bool.false_eq_true, if_false]
  refine wpAny_pure (wpAny_bind (wpAny_bind (wpAny_isInstance (T := "list") (b := false) hty sub_list_bytearray ?_)))
  simp only [Bool.false_eq_true, if_false]
  refine wpAny_pure (wpAny_pure ?_)
  refine wpAny_bind (wpAny_newObj_type ?_)
  have k2 : ∀ c o, g.get? c = some o → (g.push { cls := .type "list", data := .seq #[Value.ref b] }).get? c = some o := fun c o e => Heap.get?_push_of_some _ e
  have hS : IsL (g.push { cls := .type "list", data := .seq #[Value.ref b] }) g.objs.size #[.ref b] 0 := Heap.get?_push_size _ rfl
  refine wpAny_pure ⟨plainId_quiet PySem.F.plain_sum_loop _, sum_loopL (A := A) (I := s.heap.objs.size) (a := a) (S := g.objs.size) (ps := ps) (uss := uss) hh (Nat.ne_of_lt a9) (Nat.ne_of_gt gsz) (Nat.ne_of_gt (Nat.lt_trans a9 gsz)) hl (fun p hp => ?_) _ 0 _ b [] 0 nb rfl (Nat.zero_le _) ⟨?_, ?_⟩ hS (k2 _ _ (k1 _ _ hb)) (Nat.ne_of_lt (Nat.lt_trans b9 gsz)) (Nat.ne_of_lt b9) (hls.to fun p _ o e => k2 _ _ (k1 _ _ e)) (by simpa using hz) fun h' tk q' nq' kk hq' hor => ?_⟩
  · obtain ⟨j, hj⟩ := List.getElem?_of_mem hp
    have jl := (List.getElem?_eq_some_iff.mp hj).1
    obtain ⟨n, e⟩ := hls j p (uss[j]'(by omega)) hj (List.getElem?_eq_getElem (by omega))
    have p9 : p < s.heap.objs.size := Heap.lt_size e
    exact ⟨Nat.ne_of_lt p9, Nat.ne_of_lt (Nat.lt_trans p9 gsz)⟩
  · exact ⟨_, k2 _ _ hI, rfl, rfl⟩
  · obtain ⟨o, e, r⟩ := ha
    exact ⟨o, k2 _ _ (k1 _ _ e), r⟩
  · refine h h' tk q' nq' (fun c o e => ?_) (by simpa using hq') ?_
    · have c9 : c < s.heap.objs.size := Heap.lt_size e
      exact kk c o (Nat.ne_of_lt (Nat.lt_trans c9 gsz)) (Nat.ne_of_lt c9) (k2 _ _ (k1 _ _ e))
    · rcases hor with ⟨hz0, _⟩ | hor
      · exact absurd (List.length_eq_zero_iff.mp hz0.symm) hne
      · exact Nat.le_of_lt (Nat.lt_trans gsz hor)
end
section
variable {X : Cx}
/-- sum(lists, []) -/
def rSumL (K : PySem.W.Frag) : List V → Hp → VK → Prop := fun vs H Q => ∃ (a b : Addr) (ps : List Addr) (xss : List (List V)), vs = [V.ref a, V.ref b] ∧ SqL K H a (ps.map V.ref) ∧ H b = some (.lst []) ∧ ps ≠ [] ∧ Paired (fun p xs => H p = some (.lst xs)) ps xss ∧ xss.flatten.length ≤ sizeLine ∧ ∀ q, H q = none → Q (.ref q) (upd H q (.lst xss.flatten))
theorem vals_refs : ∀ {ps : List Addr} {us : List Value}, Vals (ps.map V.ref) us → us = ps.map Value.ref
  | [], _, .nil => rfl
  | p :: ps, _, .cons r t => by
    cases r
    rw [vals_refs t]
    rfl
theorem lists_at {pins : List (Addr × Obj)} {σ : L2.St} {H : Hp} {s : Shared} (I : L2.Inv X pins σ H s) : ∀ {ps : List Addr} {xss : List (List V)}, Paired (fun p xs => H p = some (.lst xs)) ps xss → ∃ uss : List (List Value), ps.length = uss.length ∧ Vals xss.flatten uss.flatten ∧ LsAt s.heap ps uss
  | _, _, .nil => ⟨[], rfl, .nil, fun j p us h _ => by simp at h⟩
  | p :: ps, xs :: xss, .cons r t => by
    obtain ⟨uss, h1, h2, h3⟩ := lists_at I t
    obtain ⟨z, its, n, rv, hl, e⟩ := I.lstM r
    refine ⟨its :: uss, by simp [h1], by rw [List.flatten_cons, List.flatten_cons]; exact rv.append h2, fun j q us hq hu => ?_⟩
    cases j with
    | zero =>
      cases hq
      cases hu
      exact ⟨n, e⟩
    | succ j => exact h3 j q us hq hu
theorem cr_sumL (hc : X.calm = true) : CallR X (.builtin "sum") (rSumL X.K) := by
  intro pins s σ H vs us Q I r h
  obtain ⟨a, b, ps, xss, rfl, hs, hb, hne, hp, hz, q⟩ := h
  obtain ⟨its, rv, hl, _⟩ := I.list hs
  cases vals_refs rv
  obtain ⟨uss, h1, h2, h3⟩ := lists_at I hp
  obtain ⟨z, itb, nb, rb, hbl, eb⟩ := I.lstM hb
  cases rb
  obtain ⟨v1, v2, rfl, r1, r2⟩ := Vals.two r
  cases r1
  cases r2
  refine call_sumL (I.ok.hd hc) hl.isList eb h1 hne h3 (by rw [← h2.length]; exact hz) fun h' tk q' nq' kk hq' hge => ?_
  exact ⟨.ref q', upd H q' (.lst xss.flatten), I.laid kk hge ⟨hz, _, nq', h2, hq'⟩, rfl, q q' (I.hok.fresh hge)⟩
end
end Pk
end
section
set_option maxHeartbeats 1000000
/-! The law's own: all standings. -/
namespace Pk
open PySem L2
abbrev sLAll : Stmt := topH 59
def spLAll : Sp := fun vs H Q _ => ∃ (h : Addr) (ds rs : List PyData), vs = [.ref h] ∧ HouseAt H h ds rs ∧ ds.length ≤ 3 ∧ (∀ d ∈ ds, spanLe 5 d) ∧
  ∀ (l : Addr) (ts : List Addr) (H' : Hp), Same H H' → H l = none → H' l = some (.lst (ts.map V.ref)) → ts.length ≤ 216 → (∀ t ∈ ts, ∃ is : List Int, H' t = some (.tup (is.map V.int)) ∧ is.length = ds.length ∧ standR ds rs is) → Q (.ref l) H'
abbrev nLAll : List Str := ["_law_house_here", "_law_found", "_law_name", "_law_low", "_law_high", "_law_way", "_law_up", "_law_down", "_law_rows", "_law_numbers_here", "_law_number"]
theorem scLAll : FnScope nLAll ["_law_house_here"] (defScope sLAll) := ⟨rfl, rfl, rfl, by decide +kernel, rfl, by decide +kernel, by decide +kernel⟩
/-- the scope of the comprehension over what is found -/
def scRow : Scope := { kind := .function, names := [(".0", .local), ("_law_numbers_here", .cell), ("range", .globalImplicit), ("_law_high", .cell), ("_law_low", .cell)], isGenerator := false, isCoroutine := false }
/-- tuples of so many numbers -/
def Tups (H : Hp) (n : Nat) (us : List Addr) : Prop := ∀ u ∈ us, ∃ is : List Int, H u = some (.tup (is.map V.int)) ∧ is.length = n
theorem Tups.same {H H' : Hp} {n : Nat} {us : List Addr} (a : Tups H n us) (s : Same H H') : Tups H' n us := fun u hu => let ⟨is, e, r⟩ := a u hu; ⟨is, s _ _ e, r⟩
theorem Tups.app {H : Hp} {n : Nat} {us vs : List Addr} (a : Tups H n us) (b : Tups H n vs) : Tups H n (us ++ vs) := fun u hu => (List.mem_append.mp hu).elim (a u) (b u)
theorem Tups.upd {H : Hp} {n : Nat} {us : List Addr} {D : Addr} {xs ys : List V} (a : Tups H n us) (h : H D = some (.lst xs)) : Tups (L2.upd H D (.lst ys)) n us := fun u hu => let ⟨is, e, r⟩ := a u hu; ⟨is, by rw [upd_ne (ne_of e h (by intro z; cases z))]; exact e, r⟩
theorem lists_upd {H H' : Hp} {D : Addr} {o : HO} (s : Same H H') : ∀ {Ls : List Addr} {tss : List (List Addr)}, Paired (fun L us => H L = some (.lst (us.map V.ref))) Ls tss → D ∉ Ls → Paired (fun L us => L2.upd H' D o L = some (.lst (us.map V.ref))) Ls tss
  | _, _, .nil, _ => .nil
  | L :: Ls, us :: tss, .cons r t, h => by
    rw [List.mem_cons, not_or] at h
    exact .cons (by rw [upd_ne (Ne.symm h.1)]; exact s _ _ r) (lists_upd s t h.2)
theorem lists_map {H : Hp} : ∀ {Ls : List Addr} {tss : List (List Addr)}, Paired (fun L us => H L = some (.lst (us.map V.ref))) Ls tss → Paired (fun L xs => H L = some (.lst xs)) Ls (tss.map (List.map V.ref))
  | _, _, .nil => .nil
  | _, _, .cons r t => .cons r (lists_map t)
theorem flat_map_ref : ∀ tss : List (List Addr), (tss.map (List.map V.ref)).flatten = tss.flatten.map V.ref
  | [] => rfl
  | us :: tss => by rw [List.map_cons, List.flatten_cons, List.flatten_cons, List.map_append, flat_map_ref tss]
theorem flat_len {m : Nat} : ∀ {tss : List (List Addr)}, (∀ us ∈ tss, us.length = m) → tss.flatten.length = tss.length * m
  | [], _ => by simp
  | us :: tss, h => by
    rw [List.flatten_cons, List.length_append, h us List.mem_cons_self, flat_len fun vs hv => h vs (List.mem_cons_of_mem _ hv), List.length_cons, Nat.add_mul]
    omega
theorem pow6 {i : Nat} (h : i ≤ 3) : 6 ^ i ≤ 216 := by
  match i, h with
  | 0, _ => decide
  | 1, _ => decide
  | 2, _ => decide
  | 3, _ => decide
section
variable {P : Program} {w : World} {K : PySem.W.Frag} {mg : Str → Option Value} {base : Heap}
theorem ok_lall {f g : Addr} {fd gd : FuncData} (F : Fun K "_law_all" "_law_all" sLAll f fd) (B : Blt mg) (mSum : mg "sum" = none)
    (G : FnOk P w K mg base CX0 3 g gd ["_law_house_here", "_law_numbers_here"] spLStandsK) (bG : Binds K gd ["_law_house_here", "_law_numbers_here"] []) (kG : PySem.W.keepIn K (.ref g) = true) (mG : mg "_law_stands" = some (.ref g)) :
    FnOk P w K mg base CX0 4 f fd ["_law_house_here"] spLAll := by
  refine F.ok scLAll (fun vs H Q E h => ?_) (fun cdv A outer s H vs Q E hr h => ?_)
  · obtain ⟨h, ds, rs, rfl, _⟩ := h
    rfl
  obtain ⟨h, ds, rs, rfl, hh, d3, sp, k⟩ := h
  refine ⟨_, pss_cons (ps_set (i := 1) scLAll.nd rfl (.inl rfl) (pe_lst (pa_cons (pe_tup pa_nil) pa_nil))) <|
    pss_cons (ps_for PassesOwn.never rfl (pi_tup (pe_ix ix_tup (pv 0) pe_int (fun _ _ => rfl))) (pg_tup (by rfl) (pgs_cons (pg_name (i := 2) scLAll.nd rfl (.inl rfl)) <| pgs_cons (pg_name (i := 3) scLAll.nd rfl (.inr rfl)) <| pgs_cons (pg_name (i := 4) scLAll.nd rfl (.inr rfl)) <| pgs_cons (pg_name (i := 5) scLAll.nd rfl (.inl rfl)) <| pgs_cons (pg_name (i := 6) scLAll.nd rfl (.inl rfl)) <| pgs_cons (pg_name (i := 7) scLAll.nd rfl (.inl rfl)) pgs_nil))
      (pss_cons (ps_setLc (i := 8) (own := [("_law_numbers_here", 9)]) (g := gName 9) (by rfl) scLAll.nd rfl rfl (sw_true rfl rfl rfl (by decide +kernel)) (pi_list (pv 1)) (blkOk_by (N := nLAll) (sc := defScope sLAll) (by decide +kernel)) (fun _ _ _ _ _ => pg_name (i := 9) scLAll.nd rfl (Or.inr rfl)) (fun _ _ _ _ _ => pts_nil)
        (fun _ _ _ _ _ => pe_lc (own := [("_law_number", 10)]) (g := gName 10) (by rfl) scLAll.nd (pi_range2 (by rfl) B.range (pa_cons (pv 3) (pa_cons (pe_op op_add (pv 4) pe_int) pa_nil))) (blkOk_by (N := nLAll) (sc := scRow) (by decide +kernel)) (fun _ _ _ _ _ => pg_name (i := 10) scLAll.nd rfl (Or.inl rfl)) (fun _ _ _ _ _ => pts_nil) (fun _ _ _ _ _ => pe_op (r := rCatA K) op_catA (pv 9) (pe_tup (pa_cons (pv 10) pa_nil)))))
      (pss_one (ps_set (i := 1) scLAll.nd rfl (.inl rfl) (pe_callB (cr_sumL rfl) (by rfl) mSum (by decide +kernel) (pa_cons (pv 8) (pa_cons (pe_lst pa_nil) pa_nil))))))) <|
    pss_one (ps_ret (pe_lc (own := [("_law_numbers_here", 9)]) (g := gName 9) (by rfl) scLAll.nd (pi_list (pv 1)) (blkOk_by (N := nLAll) (sc := defScope sLAll) (by decide +kernel)) (fun _ _ _ _ _ => pg_name (i := 9) scLAll.nd rfl (Or.inl rfl)) (fun _ _ _ _ _ => pts_one (pt_val (pe_call G hr rfl mG kG bG .nil pass0 (pa_cons (pv 0) (pa_cons (pv 9) pa_nil))))) (fun _ _ _ _ _ => pv 9))), ?_⟩
  have sl := sizeLine_eq
  have fg := farG
  have hg := hh.hg
  obtain ⟨dt, xs, rt, hh', hdt, ald⟩ : ∃ dt xs rt, H h = some (.tup [.ref dt, rt]) ∧ H dt = some (.tup xs) ∧ TrAll H xs ds := by
    have th := hh.tr
    cases th with
    | @tup _ hs _ e al =>
    match hs, al with
    | [_, _], .cons (.tup (a := dt) hd ad) (.cons _ .nil) => exact ⟨dt, _, _, e, hd, ad⟩
  have xl := ald.length
  refine ⟨by show 0 ≤ sizeLine; omega, fun t0 nt0 => ?_⟩
  have s0 := sameNew nt0 (.tup [])
  refine ⟨by show 1 ≤ sizeLine; omega, fun l0 nl0 => ?_⟩
  have s1 := s0.trans (sameNew nl0 (.lst [V.ref t0]))
  have el0 : L2.upd (L2.upd H t0 (.tup [])) l0 (.lst [V.ref t0]) l0 = some (.lst ([t0].map V.ref)) := upd_same
  have et0 : Tups (L2.upd (L2.upd H t0 (.tup [])) l0 (.lst [V.ref t0])) 0 [t0] := fun u hu => ⟨[], by rw [List.mem_singleton.mp hu]; exact sameNew nl0 (.lst [V.ref t0]) _ _ upd_same, rfl⟩
  generalize L2.upd (L2.upd H t0 (.tup [])) l0 (.lst [V.ref t0]) = H1 at s1 el0 et0
  refine ⟨_, rfl, h, _, _, _, rfl, rfl, SqT.of (s1 _ _ hh'), (rfl : atI [V.ref dt, rt] 0 = some (.ref dt)), dt, rfl, ⟨_, SqT.of (s1 _ _ hdt)⟩, for_tup (K := K) (a := dt) (xs := xs) (fun i σ H3 => ∃ (v2 v3 v4 v5 v6 v7 v8 : Option V) (l : Addr) (ts : List Addr), σ = [some (.ref h), some (.ref l), v2, v3, v4, v5, v6, v7, v8, none, none] ∧ H3 l = some (.lst (ts.map V.ref)) ∧ 1 ≤ ts.length ∧ ts.length ≤ 6 ^ i ∧ Tups H3 i ts ∧ Same H H3)
    ⟨none, none, none, none, none, none, none, l0, [t0], rfl, el0, Nat.le_refl _, Nat.le_refl _, et0, s1⟩ (fun i σ H3 _ ⟨_, _, _, _, _, _, _, _, _, _, _, _, _, _, s3⟩ => SqT.of (s3 _ _ hdt)) ?_ ?_⟩
  · rintro i y σ H3 hy ⟨v2, v3, v4, v5, v6, v7, v8, l, ts, rfl, e1, e2, e3, e4, s3⟩
    obtain ⟨d, hd, td⟩ := ald.get hy
    obtain ⟨b, nm, way, lo, hi, up, dn, rfl, hb0, b1, b2, b3, _, ed⟩ := dial_tup td (hg.dials d (List.mem_of_getElem? hd))
    have hsp := span_is (sp d (List.mem_of_getElem? hd)) ed
    have il := (List.getElem?_eq_some_iff.mp hd).1
    have p6 := pow6 (i := i) (by omega)
    refine ⟨b, _, rfl, SqT.of (s3 _ _ hb0), rfl, _, _, rfl, _, _, rfl, _, _, rfl, _, _, rfl, _, _, rfl, _, _, rfl, rfl, ?_⟩
    obtain ⟨m, hm⟩ : ∃ m : Nat, (hi + 1 - lo).toNat = m := ⟨_, rfl⟩
    have m1 : 1 ≤ m := by omega
    have m6 : m ≤ 6 := by omega
    refine ⟨_, rfl, l, rfl, ⟨_, SqL.of e1⟩, fun D hD => lc_list (K := K) (a := l) (xs := ts.map V.ref) (fun j H4 => ∃ (Ls : List Addr) (tss : List (List Addr)), H4 D = some (.lst (Ls.map V.ref)) ∧ D ∉ Ls ∧ Paired (fun L us => H4 L = some (.lst (us.map V.ref))) Ls tss ∧ Ls.length = j ∧ (∀ us ∈ tss, us.length = m ∧ Tups H4 (i + 1) us) ∧ Same H3 H4)
      ⟨[], [], upd_same, by simp, .nil, rfl, fun _ hu => by simp at hu, sameNew hD _⟩ (fun j H4 _ ⟨_, _, _, _, _, _, _, s4⟩ => SqL.of (s4 _ _ e1)) ?_ ?_⟩
    · rintro j y H4 hy ⟨Ls, tss, g1, g2, g3, g4, g5, s4⟩
      rw [List.getElem?_map] at hy
      obtain ⟨t, ht, rfl⟩ := Option.map_eq_some_iff.mp hy
      obtain ⟨is, eis, isl⟩ := e4 t (List.mem_of_getElem? ht)
      have jl := (List.getElem?_eq_some_iff.mp ht).1
      refine ⟨rfl, _, rfl, _, rfl, _, _, rfl, rfl, lo, hi + 1, rfl, ⟨by omega, by omega, by omega, by omega⟩, fun D2 hD2 => ?_⟩
      rw [hm]
      refine lc_range (lo := lo) (n := m) (fun n H5 => ∃ us : List Addr, H5 D2 = some (.lst (us.map V.ref)) ∧ us.length = n ∧ Tups H5 (i + 1) us ∧ Same H4 H5)
        ⟨[], upd_same, rfl, fun _ hu => by simp at hu, sameNew hD2 _⟩ ?_ ?_
      · rintro n H5 hn ⟨us, u1, u2, u3, s5⟩
        refine ⟨rfl, _, rfl, _, rfl, by show 1 ≤ sizeLine; omega, fun q nq => ?_⟩
        have sq := sameNew nq (.tup [V.int (lo + (n : Nat))])
        have fin : ∀ (u : Addr) (H6 : Hp), Same H5 H6 → H6 u = some (.tup ((is ++ [lo + (n : Nat)]).map V.int)) → ∃ acc, H6 D2 = some (.lst acc) ∧ acc.length < sizeLine ∧ ∃ us : List Addr, L2.upd H6 D2 (.lst (acc ++ [V.ref u])) D2 = some (.lst (us.map V.ref)) ∧ us.length = n + 1 ∧ Tups (L2.upd H6 D2 (.lst (acc ++ [V.ref u]))) (i + 1) us ∧ Same H4 (L2.upd H6 D2 (.lst (acc ++ [V.ref u]))) := fun u H6 s6 hu => by
          refine ⟨_, s6 _ _ u1, by rw [List.length_map]; omega, us ++ [u], by rw [upd_same, List.map_append]; rfl, by rw [List.length_append, u2]; rfl, ((u3.same s6).app fun v hv => ⟨is ++ [lo + (n : Nat)], by rw [List.mem_singleton.mp hv]; exact hu, by rw [List.length_append, isl]; rfl⟩).upd (s6 _ _ u1), fun b o e => ?_⟩
          rw [upd_ne (ne_of_none e hD2)]
          exact s6 _ _ (s5 _ _ e)
        have et : L2.upd H5 q (.tup [V.int (lo + (n : Nat))]) t = some (.tup (is.map V.int)) := sq _ _ (s5 _ _ (s4 _ _ eis))
        refine ⟨t, q, _, _, rfl, rfl, SqT.of et, SqT.of upd_same, by rw [List.length_map]; show is.length + 1 ≤ sizeLine; omega, fun z => ?_, (fun _ z => nomatch z), fun _ _ p np => ?_⟩
        · have : is = [] := List.map_eq_nil_iff.mp z
          subst this
          exact fin q _ sq upd_same
        · refine fin p _ (sq.trans (sameNew np _)) ?_
          rw [upd_same, List.map_append]
          rfl
      · rintro H5 ⟨us, u1, u2, u3, s5⟩
        have hD5 := s5 _ _ g1
        have D2D : D2 ≠ D := fun z => by rw [z, g1] at hD2; cases hD2
        have gl := g3.length
        refine ⟨_, hD5, by rw [List.length_map]; omega, Ls ++ [D2], tss ++ [us], by rw [upd_same, List.map_append]; rfl, ?_, ?_, by rw [List.length_append, g4]; rfl, fun vs hv => ?_, fun b o e => ?_⟩
        · intro hm'
          rcases List.mem_append.mp hm' with z | z
          · exact g2 z
          · exact D2D (List.mem_singleton.mp z).symm
        · exact .snoc (lists_upd s5 g3 g2) (by rw [upd_ne D2D]; exact u1)
        · rcases List.mem_append.mp hv with hv | hv
          · obtain ⟨h1, h2⟩ := g5 vs hv
            exact ⟨h1, (h2.same s5).upd hD5⟩
          · rw [List.mem_singleton.mp hv]
            exact ⟨u2, u3.upd hD5⟩
        · rw [upd_ne (ne_of_none e hD)]
          exact s5 _ _ (s4 _ _ e)
    · rintro H4 ⟨Ls, tss, g1, g2, g3, g4, g5, s4⟩
      rw [List.length_map] at g4
      have gl := g3.length
      refine ⟨_, rfl, by show 0 ≤ sizeLine; omega, fun N hN => ?_⟩
      have sN := sameNew hN (.lst [])
      have fl := flat_len fun us hu => (g5 us hu).1
      have cap : tss.length * m ≤ 6 ^ i * 6 := Nat.mul_le_mul (by omega) m6
      have low : 1 * 1 ≤ tss.length * m := Nat.mul_le_mul (by omega) m1
      refine ⟨D, N, Ls, tss.map (List.map V.ref), rfl, SqL.of (sN _ _ g1), upd_same, fun z => by rw [z] at g4; simp at g4; omega, ?_, by rw [flat_map_ref, List.length_map, fl]; omega, fun q nq => ?_⟩
      · exact lists_map (L2.Paired.mapP g3 fun L us hL => sN _ _ hL)
      · have sq := sN.trans (sameNew nq (.lst (tss.map (List.map V.ref)).flatten))
        refine ⟨_, _, _, _, _, _, _, q, tss.flatten, rfl, by rw [upd_same, flat_map_ref], by rw [fl]; omega, by rw [fl, Nat.pow_succ]; exact cap, fun u hu => ?_, s3.trans (s4.trans sq)⟩
        obtain ⟨us, hus, huu⟩ := List.mem_flatten.mp hu
        exact ((g5 us hus).2.same sq) u huu
  rintro σ H3 ⟨v2, v3, v4, v5, v6, v7, v8, l, ts, rfl, e1, e2, e3, e4, s3⟩
  rw [xl] at e3 e4
  have p6 := pow6 (i := ds.length) d3
  refine ⟨_, rfl, l, rfl, ⟨_, SqL.of e1⟩, fun D hD => lc_list (K := K) (a := l) (xs := ts.map V.ref) (fun j H4 => ∃ us : List Addr, H4 D = some (.lst (us.map V.ref)) ∧ us.length ≤ j ∧ (∀ t ∈ us, ∃ is : List Int, H4 t = some (.tup (is.map V.int)) ∧ is.length = ds.length ∧ standR ds rs is) ∧ Same H3 H4)
    ⟨[], upd_same, Nat.le_refl _, fun _ hu => by simp at hu, sameNew hD _⟩ (fun j H4 _ ⟨_, _, _, _, s4⟩ => SqL.of (s4 _ _ e1)) ?_ ?_⟩
  · rintro j y H4 hy ⟨us, g1, g2, g3, s4⟩
    rw [List.getElem?_map] at hy
    obtain ⟨t, ht, rfl⟩ := Option.map_eq_some_iff.mp hy
    obtain ⟨is, eis, isl⟩ := e4 t (List.mem_of_getElem? ht)
    have jl := (List.getElem?_eq_some_iff.mp ht).1
    refine ⟨rfl, _, rfl, _, rfl, h, t, ds, rs, is, rfl, hh.same (s3.trans s4), s4 _ _ eis, isl, fun b H5 s5 hb => ⟨_, rfl, ?_⟩⟩
    have g1' := s5 _ _ g1
    cases b with
    | true =>
      refine iteT ⟨_, rfl, _, g1', by rw [List.length_map]; omega, us ++ [t], by rw [upd_same, List.map_append]; rfl, by rw [List.length_append]; show us.length + 1 ≤ _; omega, fun u hu => ?_, fun b o e => ?_⟩
      · rcases List.mem_append.mp hu with hu | hu
        · obtain ⟨js, q1, q2, q3⟩ := g3 u hu
          exact ⟨js, by rw [upd_ne (ne_of (s5 _ _ q1) g1' (by intro z; cases z))]; exact s5 _ _ q1, q2, q3⟩
        · rw [List.mem_singleton.mp hu]
          exact ⟨is, by rw [upd_ne (ne_of (s5 _ _ (s4 _ _ eis)) g1' (by intro z; cases z))]; exact s5 _ _ (s4 _ _ eis), isl, hb rfl⟩
      · rw [upd_ne (ne_of_none e hD)]
        exact s5 _ _ (s4 _ _ e)
    | false =>
      exact iteF ⟨us, g1', by omega, fun u hu => let ⟨js, q1, q2, q3⟩ := g3 u hu; ⟨js, s5 _ _ q1, q2, q3⟩, s4.trans s5⟩
  · rintro H4 ⟨us, g1, g2, g3, s4⟩
    rw [List.length_map] at g2
    exact k D us H4 (s3.trans s4) (s3.free hD) g1 (by omega) g3
end
end Pk
end
section
set_option maxHeartbeats 1000000
/-! The law's own: small, next. -/
namespace Pk
open PySem L2
abbrev sSmall : Stmt := topH 60
abbrev sLNext : Stmt := topH 66
def spSmall : Sp := fun vs H Q _ => ∃ (p c : Addr) (X : List Addr) (n : Int), vs = [.ref p] ∧ PenC H p c n ∧ Al p X H ∧ n ≤ 90000000 ∧
  ∀ (t h y : Addr) (ds rs : List PyData) (is : List Int) (H' : Hp), PenC H' p c (n + 3010) → Sb p H H' → H' t = some (.tup [.ref h, .ref y]) → t ≠ p → Tr (zn X H') (.ref h) (.tuple [.tuple ds, .tuple rs]) → H' y = some (.tup (is.map V.int)) → y ∉ X → is.length = ds.length → (∀ j ∈ is, -farS ≤ j ∧ j ≤ farS) → HouseG ds rs → (∀ d ∈ ds, spanLe 5 d) → ds.length ≤ 3 → (∀ r ∈ rs, SmallR r) → Q (.ref t) H'
theorem scSmall : FnScope ["_law_pen_here"] ["_law_pen_here"] (defScope sSmall) := ⟨rfl, rfl, rfl, by decide +kernel, rfl, by decide +kernel, by decide +kernel⟩
abbrev nLNext : List Str := ["_law_pen_here", "_law_house_here", "_law_saying_here", "_law_lot", "_law_by", "_law_one", "_law_told", "_law_less", "_law_number"]
theorem scLNext : FnScope nLNext ["_law_pen_here", "_law_house_here", "_law_saying_here"] (defScope sLNext) := ⟨rfl, rfl, rfl, by decide +kernel, rfl, by decide +kernel, by decide +kernel⟩
def spLNext : Sp := fun vs H Q _ => ∃ (p c h a : Addr) (X : List Addr) (n : Int) (ds rs : List PyData) (s : Say), vs = [.ref p, .ref h, .ref a] ∧ PenC H p c n ∧ Al p X H ∧ n ≤ 200000000 ∧ HouseAt (zn X H) h ds rs ∧ zn X H a = some (.tup (sayV s)) ∧ SayH (ds.map nameOf) s ∧
  ∀ (t u : Addr) (o : Say) (by_ : Int) (H' : Hp), PenC H' p c (n + 2) → Sb p H H' → zn X H' t = some (.tup [.ref u, .int by_]) → zn X H' u = some (.tup (sayV o)) → SayH (ds.map nameOf) o → -greatS ≤ o.2.2 → o.2.2 ≤ greatS → -1 ≤ by_ → by_ < (rs.length : Nat) → Q (.ref t) H'
/-- a thing of the lot -/
def LotAt (H : Hp) (ns : List Str) (m : Nat) (e : Addr) : Prop := ∃ (u : Addr) (o : Say) (by_ : Int), H e = some (.tup [.ref u, .int by_]) ∧ H u = some (.tup (sayV o)) ∧ SayH ns o ∧ -1 ≤ by_ ∧ by_ < (m : Nat)
theorem LotAt.same {H H' : Hp} {ns : List Str} {m : Nat} {e : Addr} (a : LotAt H ns m e) (s : Same H H') : LotAt H' ns m e := let ⟨u, o, b, h1, h2, r⟩ := a; ⟨u, o, b, s _ _ h1, s _ _ h2, r⟩
theorem LotAt.upd {H : Hp} {ns : List Str} {m : Nat} {e D : Addr} {xs ys : List V} (a : LotAt H ns m e) (h : H D = some (.lst xs)) : LotAt (L2.upd H D (.lst ys)) ns m e := let ⟨u, o, b, h1, h2, r⟩ := a; ⟨u, o, b, by rw [upd_ne (ne_of h1 h (by intro z; cases z))]; exact h1, by rw [upd_ne (ne_of h2 h (by intro z; cases z))]; exact h2, r⟩
theorem rep3 {α : Type} {xs : List α} : (List.replicate (3 : Int).toNat xs).flatten = xs ++ xs ++ xs := by
  show (List.replicate 3 xs).flatten = _
  simp [List.replicate]
theorem clamp {i : Int} : -greatS ≤ (if (if i < greatS then i else greatS) > 0 - greatS then (if i < greatS then i else greatS) else 0 - greatS) ∧ (if (if i < greatS then i else greatS) > 0 - greatS then (if i < greatS then i else greatS) else 0 - greatS) ≤ greatS := by
  have g : greatS = 100000000000000000000 := rfl
  constructor <;> (repeat' split) <;> omega
theorem ints20 : (10 : Int) ^ (20 : Int).toNat = greatS := by decide +kernel
section
variable {P : Program} {w : World} {K : PySem.W.Frag} {mg : Str → Option Value} {base : Heap}
theorem ok_small {f g1 g2 : Addr} {fd d1 d2 : FuncData} (F : Fun K "_law_small" "_law_small" sSmall f fd)
    (G1 : FnOk P w K mg base CX0 1 g1 d1 ["_law_pen_here", "_law_many"] spDrawC) (b1 : Binds K d1 ["_law_pen_here", "_law_many"] []) (k1 : PySem.W.keepIn K (.ref g1) = true) (m1 : mg "_law_draw" = some (.ref g1))
    (G2 : FnOk P w K mg base CX0 5 g2 d2 ["_law_pen_here", "_law_many", "_law_wide", "_law_rules"] spHouseW) (b2 : Binds K d2 ["_law_pen_here", "_law_many", "_law_wide", "_law_rules"] []) (k2 : PySem.W.keepIn K (.ref g2) = true) (m2 : mg "_law_house" = some (.ref g2)) :
    FnOk P w K mg base CX0 6 f fd ["_law_pen_here"] spSmall := by
  refine F.ok scSmall (fun vs H Q E h => ?_) (fun cdv A outer s H vs Q E hr h => ?_)
  · obtain ⟨p, c, X, n, rfl, _⟩ := h
    rfl
  obtain ⟨p, c, X, n, rfl, pen, al, hn, k⟩ := h
  have hr1 : Room 1 _ := hr.mono (by decide)
  refine ⟨_, pss_one (ps_ret (pe_call G2 hr rfl m2 k2 b2 .nil pass0 (pa_cons (pv 0) (pa_cons (pe_op op_add pe_int (pe_call G1 hr1 rfl m1 k1 b1 .nil pass0 (pa_cons (pv 0) (pa_cons pe_int pa_nil)))) (pa_cons (pe_op op_add pe_int (pe_call G1 hr1 rfl m1 k1 b1 .nil pass0 (pa_cons (pv 0) (pa_cons pe_int pa_nil)))) (pa_cons (pe_call G1 hr1 rfl m1 k1 b1 .nil pass0 (pa_cons (pv 0) (pa_cons pe_int pa_nil))) pa_nil)))))), ?_⟩
  refine ⟨_, rfl, _, rfl, p, c, _, _, rfl, pen, by omega, by decide, by decide, fun w1 Ha a1 a2 penA sbA => ?_⟩
  refine ⟨_, _, rfl, rfl, _, rfl, p, c, _, _, rfl, penA, by omega, by decide, by decide, fun w2 Hb a3 a4 penB sbB => ?_⟩
  refine ⟨_, _, rfl, rfl, _, rfl, p, c, _, _, rfl, penB, by omega, by decide, by decide, fun w3 Hc a5 a6 penC sbC => ?_⟩
  have sb := sbA.trans (sbB.trans sbC)
  refine ⟨p, c, X, _, 1 + w2, w3, (1 + w1).toNat, by show [V.ref p, V.int (1 + w1), V.int (1 + w2), V.int w3] = _; rw [show (((1 + w1).toNat : Nat) : Int) = 1 + w1 by omega], by omega, by omega, penC, al.sb sb penC, by omega, by omega, by omega, a5, by omega, fun t h y ds rs is Hd penD sbD ht tp th hy yX il ib hg spn isp dm sr rl => ?_⟩
  refine k t h y ds rs is Hd (penD.mono (by omega)) (sb.trans sbD) ht tp th hy yX il ib hg (fun d hd => ?_) (by omega) sr
  have q := spn d hd
  obtain ⟨nm, way, lo, hi, up, dn, rfl, _⟩ := hg.dials d hd
  have q : hi - lo ≤ 1 + w2 := q
  show hi - lo ≤ 5
  omega
theorem ok_lnext {f g1 g2 : Addr} {fd d1 d2 : FuncData} (F : Fun K "_law_next" "_law_next" sLNext f fd) (B : Blt mg)
    (G1 : FnOk P w K mg base CX0 2 g1 d1 ["_law_pen_here", "_law_lot"] spPick) (b1 : Binds K d1 ["_law_pen_here", "_law_lot"] []) (k1 : PySem.W.keepIn K (.ref g1) = true) (m1 : mg "_law_pick" = some (.ref g1))
    (G2 : FnOk P w K mg base CX0 2 g2 d2 ["_law_house_here", "_law_rule_here", "_law_saying_here"] spLBrought) (b2 : Binds K d2 ["_law_house_here", "_law_rule_here", "_law_saying_here"] []) (k2 : PySem.W.keepIn K (.ref g2) = true) (m2 : mg "_law_brought" = some (.ref g2)) :
    FnOk P w K mg base CX0 3 f fd ["_law_pen_here", "_law_house_here", "_law_saying_here"] spLNext := by
  refine F.ok scLNext (fun vs H Q E h => ?_) (fun cdv A outer s H vs Q E hr h => ?_)
  · obtain ⟨p, c, h, a, X, n, ds, rs, s, rfl, _⟩ := h
    rfl
  obtain ⟨p, c, h, a, X, n, ds, rs, z, rfl, pen, al, hn, hhz, haz, hz, k⟩ := h
  refine ⟨_, pss_cons (ps_set (i := 3) scLNext.nd rfl (.inl rfl) (pe_lst (pa_cons (pe_tup (pa_cons (pv 2) (pa_cons (pe_op op_sub pe_int pe_int) pa_nil))) pa_nil))) <|
    pss_cons (ps_for PassesOwn.never rfl (pi_range1 (by rfl) B.range (pa_cons (pe_callB call_len_seq (by rfl) B.len PySem.boot_len (pa_cons (pe_ix ix_tup (pv 1) pe_int (fun _ _ => rfl)) pa_nil)) pa_nil)) (pg_name (i := 4) scLNext.nd rfl (.inr rfl))
      (pss_one (ps_expr (pe_bm PySem.F.plainAttrs_list PySem.F.slot_list_extend PySem.F.type_list_extend mt_extend (pv 3) (pa_cons (pe_op op_rep (pe_lc (own := [("_law_one", 5)]) (g := gName 5) (by rfl) scLNext.nd (pi_list (pe_call G2 hr rfl m2 k2 b2 .nil pass0 (pa_cons (pv 1) (pa_cons (pe_ix ix_tup (pe_ix ix_tup (pv 1) pe_int (fun _ _ => rfl)) (pv 4) (fun _ _ => rfl)) (pa_cons (pv 2) pa_nil))))) (blkOk_by (N := nLNext) (sc := defScope sLNext) (by decide +kernel)) (fun _ _ _ _ _ => pg_name (i := 5) scLNext.nd rfl (Or.inl rfl)) (fun _ _ _ _ _ => pts_nil)
        (fun _ _ _ _ _ => pe_tup (pa_cons (pv 5) (pa_cons (pv 4) pa_nil)))) pe_int) pa_nil))))) <|
    pss_cons (ps_asg (pe_call G1 hr rfl m1 k1 b1 .nil pass0 (pa_cons (pv 0) (pa_cons (pv 3) pa_nil))) (pg_tup (by rfl) (pgs_cons (pg_name (i := 6) scLNext.nd rfl (.inl rfl)) <| pgs_cons (pg_name (i := 4) scLNext.nd rfl (.inr rfl)) pgs_nil))) <|
    pss_cons (ps_set (i := 7) scLNext.nd rfl (.inl rfl) (pe_call G1 hr rfl m1 k1 b1 .nil pass0 (pa_cons (pv 0) (pa_cons (pe_lst (pa_cons pe_int (pa_cons pe_int (pa_cons pe_int (pa_cons pe_int pa_nil))))) pa_nil)))) <|
    pss_cons (ps_set (i := 8) scLNext.nd rfl (.inl rfl) (pe_ifExp (pt_cmpR op_eq (pe_ix ix_tup (pv 6) pe_int (fun _ _ => rfl)) pe_str (nomark _)) (pe_op op_sub (pe_ix ix_tup (pv 6) pe_int (fun _ _ => rfl)) (pv 7)) (pe_op op_add (pe_ix ix_tup (pv 6) pe_int (fun _ _ => rfl)) (pv 7)))) <|
    pss_one (ps_ret (pe_tup (pa_cons (pe_tup (pa_cons (pe_ix ix_tup (pv 6) pe_int (fun _ _ => rfl)) (pa_cons (pe_ix ix_tup (pv 6) pe_int (fun _ _ => rfl)) (pa_cons (pe_callB (call_max2 rfl) (by rfl) B.max (by decide +kernel) (pa_cons (pe_op op_sub pe_int (pe_op op_pow pe_int pe_int)) (pa_cons (pe_callB (call_min2 rfl) (by rfl) B.min (by decide +kernel) (pa_cons (pe_op op_pow pe_int pe_int) (pa_cons (pv 8) pa_nil))) pa_nil))) pa_nil)))) (pa_cons (pv 4) pa_nil)))), ?_⟩
  have sl := sizeLine_eq
  have hg := hhz.hg
  have r2 := hg.r2
  have hh : HouseAt H h ds rs := hhz.same zn_le
  have ha := zn_le _ _ haz
  obtain ⟨dt, rt, ys, hh', hrt, alr⟩ : ∃ dt rt ys, H h = some (.tup [dt, .ref rt]) ∧ H rt = some (.tup ys) ∧ TrAll H ys rs := by
    have th := hh.tr
    cases th with
    | @tup _ hs _ e al =>
    match hs, al with
    | [_, _], .cons _ (.cons (.tup (a := rt) hd ad) .nil) => exact ⟨_, _, _, e, hd, ad⟩
  have yl := alr.length
  -- the saying itself
  refine ⟨_, rfl, _, _, rfl, rfl, by show 2 ≤ sizeLine; omega, fun e0 ne0 => ?_⟩
  have s0 := sameNew ne0 (.tup [V.ref a, V.int (0 - 1)])
  refine ⟨by show 1 ≤ sizeLine; omega, fun D nD => ?_⟩
  have s1 := s0.trans (sameNew nD (.lst [V.ref e0]))
  have hD1 : L2.upd (L2.upd H e0 (.tup [V.ref a, V.int (0 - 1)])) D (.lst [V.ref e0]) D = some (.lst ([e0].map V.ref)) := upd_same
  have el1 : LotAt (L2.upd (L2.upd H e0 (.tup [V.ref a, V.int (0 - 1)])) D (.lst [V.ref e0])) (ds.map nameOf) rs.length e0 := by
    refine ⟨a, z, 0 - 1, sameNew nD _ _ _ upd_same, s1 _ _ ha, hz, by omega, by omega⟩
  have nD0 : H D = none := s0.free nD
  generalize L2.upd (L2.upd H e0 (.tup [V.ref a, V.int (0 - 1)])) D (.lst [V.ref e0]) = H1 at s1 hD1 el1
  clear s0 nD ne0
  refine ⟨_, rfl, h, _, _, _, rfl, rfl, SqT.of (s1 _ _ hh'), (rfl : atI [dt, V.ref rt] 1 = some (.ref rt)), rt, _, rfl, .inr (SqT.of (s1 _ _ hrt)), _, rfl, by omega, by omega, ?_⟩
  rw [Int.toNat_natCast]
  refine for_range (lo := 0) (n := ys.length) (fun i σ H2 => ∃ (v4 : Option V) (es : List Addr), σ = [some (.ref p), some (.ref h), some (.ref a), some (.ref D), v4, none, none, none, none] ∧ H2 D = some (.lst (es.map V.ref)) ∧ 1 ≤ es.length ∧ es.length ≤ 1 + 6 * i ∧ (∀ e ∈ es, LotAt H2 (ds.map nameOf) rs.length e) ∧ Same H H2)
    ⟨none, [e0], rfl, hD1, Nat.le_refl _, Nat.le_refl _, fun e he => by rw [List.mem_singleton.mp he]; exact el1, s1⟩ ?_ ?_
  · rintro i σ H2 hi ⟨v4, es, rfl, e1, e2, e3, e4, s2⟩
    rw [Int.zero_add]
    have hyn : ys[i]? = some ys[i] := List.getElem?_eq_getElem hi
    obtain ⟨r, hr', tr⟩ := alr.get hyn
    obtain ⟨ra, era, hR, oR⟩ := rul_of (tr.same s2) (hg.rules r (List.mem_of_getElem? hr'))
    have ixr : atI ys ((i : Nat) : Int) = some (.ref ra) := by
      rw [← era]
      exact atI_nat hyn
    refine ⟨_, rfl, .inl ⟨rfl, _, SqL.of e1⟩, _, rfl, _, rfl, h, _, _, _, rfl, rfl, SqT.of (s2 _ _ hh'), (rfl : atI [dt, V.ref rt] 1 = some (.ref rt)), _, rfl, rt, _, _, _, rfl, rfl, SqT.of (s2 _ _ hrt), ixr, _, rfl, h, ra, a, ds, rs, z, rulOf r, rfl, hh.same s2, hR, oR, s2 _ _ ha, hz, fun l os H3 s3 nl hl says => ?_⟩
    have gok := given_ok (e := endsOf ds) oR hz
    have g2 := given_len (endsOf ds) (rulOf r) z
    generalize givenR (endsOf ds) (rulOf r) z = gs at says gok g2
    have gl := says.length
    have hri := (List.getElem?_eq_some_iff.mp hr').1
    refine ⟨l, rfl, ⟨_, SqL.of hl⟩, fun D2 hD2 => lc_list (K := K) (a := l) (xs := os.map V.ref) (fun j H4 => ∃ ts : List Addr, H4 D2 = some (.lst (ts.map V.ref)) ∧ ts.length = j ∧ (∀ e ∈ ts, LotAt H4 (ds.map nameOf) rs.length e) ∧ Same H3 H4)
      ⟨[], upd_same, rfl, fun _ he => by simp at he, sameNew hD2 _⟩ (fun j H4 _ ⟨_, _, _, _, s4⟩ => SqL.of (s4 _ _ hl)) ?_ ?_⟩
    · rintro j y H4 hy ⟨ts, f1, f2, f3, s4⟩
      rw [List.getElem?_map] at hy
      obtain ⟨oa, hoa, rfl⟩ := Option.map_eq_some_iff.mp hy
      obtain ⟨u, hu, hau⟩ := says_get says hoa
      have us := gok u (List.mem_of_getElem? hu)
      have jl := (List.getElem?_eq_some_iff.mp hu).1
      refine ⟨rfl, _, rfl, _, rfl, by show 2 ≤ sizeLine; omega, fun t nt => ?_⟩
      have st := sameNew nt (.tup [V.ref oa, V.int ((i : Nat) : Int)])
      have tD : t ≠ D2 := fun z => by rw [z, f1] at nt; cases nt
      refine ⟨_, st _ _ f1, by rw [List.length_map]; omega, ts ++ [t], by rw [upd_same, List.map_append]; rfl, by rw [List.length_append, f2]; rfl, fun e he => ?_, fun b o e => ?_⟩
      · rcases List.mem_append.mp he with he | he
        · exact ((f3 e he).same st).upd (st _ _ f1)
        · rw [List.mem_singleton.mp he]
          exact LotAt.upd ⟨oa, u, _, upd_same, st _ _ (s4 _ _ hau), us, by omega, by omega⟩ (st _ _ f1)
      · rw [upd_ne (ne_of_none e hD2)]
        exact st _ _ (s4 _ _ e)
    · rintro H4 ⟨ts, f1, f2, f3, s4⟩
      rw [List.length_map] at f2
      refine ⟨_, _, _, rfl, rfl, f1, by decide, by decide, by rw [List.length_map]; show ts.length * 3 ≤ sizeLine; omega, fun q nq => ?_⟩
      rw [rep3]
      have sq := sameNew nq (.lst (ts.map V.ref ++ ts.map V.ref ++ ts.map V.ref))
      have s34 := s3.trans (s4.trans sq)
      have eD := s34 _ _ e1
      refine ⟨D, q, _, _, rfl, rfl, eD, upd_same, by simp only [List.length_append, List.length_map]; omega, ?_⟩
      refine ⟨_, es ++ (ts ++ ts ++ ts), rfl, by rw [upd_same]; simp only [List.map_append], by rw [List.length_append]; omega, by simp only [List.length_append]; omega, fun e he => ?_, fun b o e => ?_⟩
      · have : e ∈ es ∨ e ∈ ts := by simpa using he
        rcases this with he | he
        · exact ((e4 e he).same s34).upd eD
        · exact ((f3 e he).same sq).upd eD
      · rw [upd_ne (ne_of_none e nD0)]
        exact s34 _ _ (s2 _ _ e)
  · rintro σ H2 ⟨v4, es, rfl, e1, e2, e3, e4, s2⟩
    have pen2 := pen.same s2
    have al2 := al.same s2
    have Dp := pen.newp nD0
    have DX : D ∉ X := al.out nD0
    refine ⟨_, rfl, _, rfl, .inl ⟨p, c, D, n, _, rfl, pen2, by omega, Dp, .inl e1, by rw [List.length_map]; omega, by rw [List.length_map]; omega, fun x H3 hx pen3 sb3 => ?_⟩⟩
    obtain ⟨e, he, rfl⟩ := List.mem_map.mp hx
    obtain ⟨u, o, by_, g1, g2, g3, g4, g5⟩ := e4 e he
    have notp : ∀ {b : Addr} {xs : List V}, H2 b = some (.tup xs) → b ≠ p := fun {b xs} hb q => by
      obtain ⟨kv, hp⟩ := pen2.atp
      rw [q, hp] at hb
      cases hb
    have hu3 : H3 u = some (.tup (sayV o)) := sb3.to (notp g2) g2
    refine ⟨e, _, rfl, SqT.of (sb3.to (notp g1) g1), rfl, _, _, rfl, _, _, rfl, rfl, ?_⟩
    refine ⟨_, rfl, by show 4 ≤ sizeLine; omega, fun e' he' => ?_⟩
    have se := sameNew he' (.lst [V.int 0, V.int 0, V.int 1, V.int 5])
    refine .inl ⟨p, c, e', _, _, rfl, pen3.same se, by omega, pen3.newp he', .inl upd_same, by simp, by simp, fun x H5 hx pen5 sb5 => ?_⟩
    obtain ⟨lv, rfl⟩ : ∃ lv : Int, x = .int lv := by
      simp only [List.mem_cons, List.not_mem_nil, or_false] at hx
      rcases hx with rfl | rfl | rfl | rfl <;> exact ⟨_, rfl⟩
    have sb35 : Sb p H3 H5 := (Sb.same se).trans sb5
    have hu5 : H5 u = some (.tup (sayV o)) := sb35.to (fun q => by
      obtain ⟨kv, hp⟩ := pen3.atp
      rw [q, hp] at hu3
      cases hu3) hu3
    have sb05 : Sb p H H5 := (Sb.same s2).trans (sb3.trans sb35)
    have al5 := al.sb sb05 pen5
    have i0 : atI (sayV o) 0 = some (V.str o.1) := rfl
    have i1 : atI (sayV o) 1 = some (V.str o.2.1) := rfl
    have i2 : atI (sayV o) 2 = some (V.int o.2.2) := rfl
    have fin : ∀ (v : Int), -greatS ≤ v → v ≤ greatS → ∀ u' t, H5 u' = none → L2.upd H5 u' (.tup [V.str o.1, V.str o.2.1, V.int v]) t = none → Q (.ref t) (L2.upd (L2.upd H5 u' (.tup [V.str o.1, V.str o.2.1, V.int v])) t (.tup [V.ref u', V.int by_])) := fun v v1 v2 u' t nu nt => by
      have su := sameNew nu (.tup [V.str o.1, V.str o.2.1, V.int v])
      have st := sameNew nt (.tup [V.ref u', V.int by_])
      exact k t u' (o.1, o.2.1, v) by_ _ (((pen5.same su).same st).mono (by omega)) (sb05.trans (Sb.same (su.trans st))) (by rw [zn_out ((al5.same su).out nt), upd_same]) (by rw [zn_out (al5.out nu)]; exact st _ _ upd_same) ⟨g3.nm, g3.so⟩ v1 v2 g4 g5
    clear hx se he' sb3 sb5 sb35 pen3
    refine ⟨_, rfl, u, _, _, _, rfl, rfl, SqT.of hu5, i1, rfl, _, rfl, ?_⟩
    refine ite2 (fun _ => ⟨_, rfl, u, _, _, _, rfl, rfl, SqT.of hu5, i2, _, rfl, _, _, rfl, rfl, ?_⟩) (fun _ => ⟨_, rfl, u, _, _, _, rfl, rfl, SqT.of hu5, i2, _, rfl, _, _, rfl, rfl, ?_⟩)
    all_goals
      refine ⟨_, rfl, u, _, _, _, rfl, rfl, SqT.of hu5, i0, _, rfl, u, _, _, _, rfl, rfl, SqT.of hu5, i1, _, _, rfl, rfl, ⟨by decide, by decide, by decide⟩, _, _, rfl, rfl, _, _, rfl, rfl, ⟨by decide, by decide, by decide⟩, _, rfl, _, _, rfl, _, _, rfl, by show 3 ≤ sizeLine; omega, fun u' nu => ?_⟩
      rw [ints20]
      refine ⟨_, rfl, by show 2 ≤ sizeLine; omega, fun t nt => ?_⟩
      exact fin _ clamp.1 clamp.2 u' t nu nt
end
end Pk
end
section
set_option maxHeartbeats 1000000
/-! The law's own: chain. -/
namespace Pk
open PySem L2
abbrev sLChain : Stmt := topH 67
abbrev nLChain : List Str := ["_law_pen_here", "_law_house_here", "_law_at_here", "_law_found", "_law_k", "_law_saying_here", "_law_by"]
theorem scLChain : FnScope nLChain ["_law_pen_here", "_law_house_here", "_law_at_here"] (defScope sLChain) := ⟨rfl, rfl, rfl, by decide +kernel, rfl, by decide +kernel, by decide +kernel⟩
def spLChain : Sp := fun vs H Q _ => ∃ (p c h d : Addr) (X : List Addr) (n wd : Int) (ds rs : List PyData) (es : List (Str × Int)), vs = [.ref p, .ref h, .ref d] ∧ 0 ≤ wd ∧ wd ≤ 1000000000000000000 ∧ PenC H p c n ∧ Al p X H ∧ n ≤ 190000000 ∧ HouseAt (zn X H) h ds rs ∧ (∀ d ∈ ds, spanLe wd d) ∧ AtD H d ds es ∧
  ∀ (L : Addr) (s0 : Say) (l : List (Say × Int)) (H' : Hp), PenC H' p c (n + 100) → Sb p H H' → Tr (zn X H') (.ref L) (.list (chainP s0 l)) → ChainK (ds.map nameOf) rs.length s0 l → chainB (endsOf ds) rs s0 l = true → l.length ≤ 11 → Q (.ref L) H'
theorem atI_m1 {xs : List V} {n : Nat} (h : xs.length = n + 1) : atI xs (-1) = xs[n]? := by
  have ne : xs ≠ [] := fun z => by rw [z] at h; simp at h
  have e := atI_last xs.dropLast (xs.getLast ne)
  rw [List.dropLast_concat_getLast] at e
  rw [e, List.getLast_eq_getElem, List.getElem?_eq_getElem (by omega)]
  congr 1
  congr 1
  omega
theorem front_app {s0 : Say} {l : List (Say × Int)} {p : Say × Int} : ∀ {i : Nat}, i ≤ l.length → frontK s0 (l ++ [p]) i = frontK s0 l i
  | 0, _ => rfl
  | j + 1, h => by
    show (match (l ++ [p])[j]? with | some p => p.1 | none => s0) = _
    rw [List.getElem?_append_left (by omega)]
    rfl
theorem chain_snoc {e : Str → Int × Int} {rs : List PyData} {s0 : Say} {l : List (Say × Int)} {p : Say × Int} (h : chainB e rs s0 l = true) (hp : leadB e rs (frontK s0 l l.length) p.1 p.2 = true) : chainB e rs s0 (l ++ [p]) = true := by
  unfold chainB at h ⊢
  rw [List.all_eq_true] at h ⊢
  intro i hi
  rw [List.mem_range, List.length_append] at hi
  have hi : i < l.length + 1 := hi
  unfold linkB
  rw [front_app (by omega)]
  by_cases c : i < l.length
  · rw [List.getElem?_append_left c]
    exact h i (List.mem_range.mpr c)
  · have e : i = l.length := by omega
    subst e
    rw [List.getElem?_append_right (Nat.le_refl _), Nat.sub_self]
    exact hp
theorem chainP_app {s0 : Say} {l : List (Say × Int)} {p : Say × Int} : chainP s0 (l ++ [p]) = chainP s0 l ++ [.tuple [sayP p.1, .int p.2]] := by
  show _ :: (l ++ [p]).map _ = _ :: l.map _ ++ _
  rw [List.map_append]
  rfl
theorem say_k {ns : List Str} {o : Say} (h : SayH ns o) (h1 : -greatS ≤ o.2.2) (h2 : o.2.2 ≤ greatS) : sayingD ns (sayP o) = true := say_of h.nm h.so h1 h2
section
variable {P : Program} {w : World} {K : PySem.W.Frag} {mg : Str → Option Value} {base : Heap}
theorem ok_lchain {f g1 g2 g3 g4 : Addr} {fd d1 d2 d3 d4 : FuncData} (F : Fun K "_law_chain" "_law_chain" sLChain f fd) (B : Blt mg)
    (G1 : FnOk P w K mg base CX0 1 g1 d1 ["_law_pen_here", "_law_many"] spDrawC) (b1 : Binds K d1 ["_law_pen_here", "_law_many"] []) (k1 : PySem.W.keepIn K (.ref g1) = true) (m1 : mg "_law_draw" = some (.ref g1))
    (G2 : FnOk P w K mg base CX0 3 g2 d2 ["_law_pen_here", "_law_dials_here", "_law_at_here"] spSayW) (b2 : Binds K d2 ["_law_pen_here", "_law_dials_here", "_law_at_here"] []) (k2 : PySem.W.keepIn K (.ref g2) = true) (m2 : mg "_law_saying" = some (.ref g2))
    (G3 : FnOk P w K mg base CX0 3 g3 d3 ["_law_pen_here", "_law_house_here", "_law_saying_here"] spLNext) (b3 : Binds K d3 ["_law_pen_here", "_law_house_here", "_law_saying_here"] []) (k3 : PySem.W.keepIn K (.ref g3) = true) (m3 : mg "_law_next" = some (.ref g3))
    (G4 : FnOk P w K mg base CX0 3 g4 d4 ["_law_house_here", "_law_front", "_law_by", "_law_saying_here"] spLLinks) (b4 : Binds K d4 ["_law_house_here", "_law_front", "_law_by", "_law_saying_here"] []) (k4 : PySem.W.keepIn K (.ref g4) = true) (m4 : mg "_law_links" = some (.ref g4)) :
    FnOk P w K mg base CX0 4 f fd ["_law_pen_here", "_law_house_here", "_law_at_here"] spLChain := by
  refine F.ok scLChain (fun vs H Q E h => ?_) (fun cdv A outer s H vs Q E hr h => ?_)
  · obtain ⟨p, c, h, d, X, n, wd, ds, rs, es, rfl, _⟩ := h
    rfl
  obtain ⟨p, c, h, d, X, n, wd, ds, rs, es, rfl, wd1, wd2, pen, al, hn, hhz, sp, ad, k⟩ := h
  have hr1 : Room 1 _ := hr.mono (by decide)
  refine ⟨_, pss_cons (ps_set (i := 3) scLChain.nd rfl (.inl rfl) (pe_lst (pa_cons (pe_tup (pa_cons (pe_call G2 hr rfl m2 k2 b2 .nil pass0 (pa_cons (pv 0) (pa_cons (pe_ix ix_tup (pv 1) pe_int (fun _ _ => rfl)) (pa_cons (pv 2) pa_nil)))) (pa_cons pe_non pa_nil))) pa_nil))) <|
    pss_cons (ps_for PassesOwn.never rfl (pi_range1 (by rfl) B.range (pa_cons (pe_call G1 hr1 rfl m1 k1 b1 .nil pass0 (pa_cons (pv 0) (pa_cons pe_int pa_nil))) pa_nil)) (pg_name (i := 4) scLChain.nd rfl (.inl rfl))
      (pss_cons (ps_asg (pe_call G3 hr rfl m3 k3 b3 .nil pass0 (pa_cons (pv 0) (pa_cons (pv 1) (pa_cons (pe_ix ix_tup (pe_ix ix_list (pv 3) (pe_un un_neg pe_int) (fun _ _ => rfl)) pe_int (fun _ _ => rfl)) pa_nil)))) (pg_tup (by rfl) (pgs_cons (pg_name (i := 5) scLChain.nd rfl (.inl rfl)) <| pgs_cons (pg_name (i := 6) scLChain.nd rfl (.inl rfl)) pgs_nil)))
      (pss_one (ps_if (pt_val (pe_call G4 hr rfl m4 k4 b4 .nil pass0 (pa_cons (pv 1) (pa_cons (pe_ix ix_tup (pe_ix ix_list (pv 3) (pe_un un_neg pe_int) (fun _ _ => rfl)) pe_int (fun _ _ => rfl)) (pa_cons (pv 6) (pa_cons (pv 5) pa_nil))))))
        (pss_one (ps_expr (pe_bm PySem.F.plainAttrs_list PySem.F.slot_list_append PySem.F.type_list_append mt_append (pv 3) (pa_cons (pe_tup (pa_cons (pv 5) (pa_cons (pv 6) pa_nil))) pa_nil)))) pss_nil)))) <|
    pss_one (ps_ret (pv 3)), ?_⟩
  have sl := sizeLine_eq
  have fg := farG
  have gg := greatG
  have hg := hhz.hg
  obtain ⟨dt, rt, xs, hh', hdt, hrt, hp', dtX, alD⟩ : ∃ dt rt xs, H h = some (.tup [.ref dt, rt]) ∧ H dt = some (.tup xs) ∧ Tr (zn X H) (.ref dt) (.tuple ds) ∧ h ≠ p ∧ dt ∉ X ∧ TrAll (zn X H) xs ds := by
    have th := hhz.tr
    cases th with
    | @tup _ hs _ e al' =>
    match hs, al' with
    | [_, _], .cons (.tup (a := dt) hd ad') (.cons _ .nil) =>
      obtain ⟨z1, z2⟩ := zn_some e
      obtain ⟨z3, z4⟩ := zn_some hd
      exact ⟨dt, _, _, z2, z4, .tup hd ad', fun z => z1 (by rw [z]; exact al.mem), z3, ad'⟩
  -- the first saying
  refine ⟨_, rfl, _, rfl, h, _, _, _, rfl, rfl, SqT.of hh', (rfl : atI [V.ref dt, rt] 0 = some (.ref dt)), _, rfl, p, c, dt, d, X, n, wd, ds, es, rfl, wd1, wd2, pen, al, by omega, ⟨hrt, hg.d1, hg.d2, fun x hx => ⟨hg.dials x hx, sp x hx⟩⟩, ad, fun s z so i H1 pen1 sb1 hs sX hz hso b1 b2 => ?_⟩
  refine ⟨by show 2 ≤ sizeLine; omega, fun t nt => ?_⟩
  have st := sameNew nt (.tup [V.ref s, V.non])
  refine ⟨by show 1 ≤ sizeLine; omega, fun F' nF => ?_⟩
  have al1 := al.sb sb1 pen1
  have sb2 : Sb p H (L2.upd H1 t (.tup [V.ref s, V.non])) := sb1.trans (Sb.same st)
  have pen2 := pen1.same st
  have al2 := al1.same st
  have hs2 : zn X (L2.upd H1 t (.tup [V.ref s, V.non])) s = some (.tup (sayV (z, so, i))) := by rw [zn_out sX]; exact st _ _ hs
  have ht2 : zn X (L2.upd H1 t (.tup [V.ref s, V.non])) t = some (.tup [V.ref s, V.non]) := by rw [zn_out (al1.out nt), upd_same]
  generalize L2.upd H1 t (.tup [V.ref s, V.non]) = H2 at nF sb2 pen2 al2 hs2 ht2
  have Fp := pen2.newp nF
  have Fc := pen2.newc nF
  have nFH : H F' = none := sb2.free Fp nF
  have hk0 : ChainK (ds.map nameOf) rs.length (z, so, i) [] := ⟨say_of hz hso (by show -greatS ≤ i; omega) (by show i ≤ greatS; omega), fun _ h => by simp at h⟩
  have hhF : HouseAt (zn (F' :: X) H) h ds rs := hhz.same (zn_fresh nFH)
  clear st nt hs sX
  refine ⟨_, rfl, p, c, _, _, rfl, pen2.same (sameNew nF _), by omega, by decide, by decide, fun w1 H3 a1 a2 pen3 sb3 => ?_⟩
  have sbF : Sb p H H3 := (sb2.trans (Sb.same (sameNew nF (.lst [V.ref t])))).trans sb3
  have hF3 : H3 F' = some (.lst [V.ref t]) := sb3.to Fp upd_same
  have al3 : Al p (F' :: X) H3 := (al.sb sbF pen3).cons hF3
  have tr3 : TrAll (zn (F' :: X) H3) [V.ref t] (chainP (z, so, i) []) := by
    have s23 : Same (zn X H2) (zn (F' :: X) H3) := ((zn_fresh nF).trans (zn_mono (sameNew nF _))).trans (zn_sb sb3 (List.mem_cons_of_mem _ al.mem))
    exact .cons (.tup (s23 _ _ ht2) (.cons (.tup (s23 _ _ hs2) (.cons (.str _) (.cons (.str _) (.cons (.int _) .nil)))) (.cons .non .nil))) .nil
  refine ⟨_, rfl, by omega, by omega, ?_⟩
  refine for_range (lo := 0) (n := w1.toNat) (fun j σ H4 => ∃ (v4 v5 v6 : Option V) (ys : List V) (l : List (Say × Int)), σ = [some (.ref p), some (.ref h), some (.ref d), some (.ref F'), v4, v5, v6] ∧ H4 F' = some (.lst ys) ∧ TrAll (zn (F' :: X) H4) ys (chainP (z, so, i) l) ∧ ChainK (ds.map nameOf) rs.length (z, so, i) l ∧ chainB (endsOf ds) rs (z, so, i) l = true ∧ l.length ≤ j ∧ PenC H4 p c (n + 10 + 2 * j) ∧ Sb p H H4)
    ⟨none, none, none, _, [], rfl, hF3, tr3, hk0, rfl, Nat.le_refl _, pen3.mono (by omega), sbF⟩ ?_ ?_
  · rintro j σ H4 hj ⟨v4, v5, v6, ys, l, rfl, f1, f2, f3, f4, f5, pen4, sb4⟩
    have al4 : Al p (F' :: X) H4 := (al.sb sb4 pen4).cons f1
    have hh4 : HouseAt (zn (F' :: X) H4) h ds rs := hhF.same (zn_sb sb4 (List.mem_cons_of_mem _ al.mem))
    have yl : ys.length = l.length + 1 := by
      rw [f2.length]
      show (l.map _).length + 1 = _
      rw [List.length_map]
    obtain ⟨b, q, v, hx, hb, hq⟩ := chain_front f2 (i := l.length) (Nat.le_refl _)
    have ix : atI ys (-1) = some (.ref b) := by rw [atI_m1 yl]; exact hx
    have fo := front_ok f3 l.length
    refine ⟨_, rfl, _, rfl, _, rfl, _, rfl, F', _, _, _, rfl, rfl, SqL.of f1, ix, b, _, _, _, rfl, rfl, SqT.of (zn_le _ _ hb), (rfl : atI [V.ref q, v] 0 = some (.ref q)), p, c, h, q, F' :: X, _, ds, rs, frontK (z, so, i) l l.length, rfl, pen4, al4, by omega, hh4, hq, fo, fun t2 u o by_ H5 pen5 sb5 ht5 hu5 ho c1 c2 c3 c4 => ?_⟩
    have z45 : Same (zn (F' :: X) H4) (zn (F' :: X) H5) := zn_sb sb5 (List.mem_cons_of_mem _ al.mem)
    have f15 := sb5.to Fp f1
    refine ⟨t2, _, rfl, SqT.of (zn_le _ _ ht5), rfl, _, _, rfl, _, _, rfl, rfl, ?_⟩
    refine ⟨_, rfl, _, rfl, _, rfl, F', _, _, _, rfl, rfl, SqL.of f15, ix, b, _, _, _, rfl, rfl, SqT.of (zn_le _ _ (z45 _ _ hb)), (rfl : atI [V.ref q, v] 0 = some (.ref q)), _, rfl, _, rfl, h, q, u, ds, rs, frontK (z, so, i) l l.length, o, by_, rfl, (hh4.same z45).same zn_le, zn_le _ _ (z45 _ _ hq), zn_le _ _ hu5, fo, ho, c3, c4, fun H6 s6 => ⟨_, rfl, ?_⟩⟩
    have sb46 : Sb p H H6 := sb4.trans (sb5.trans (Sb.same s6))
    have z56 := zn_mono (X := F' :: X) s6
    have f16 := s6 _ _ f15
    have pen6 := pen5.same s6
    cases lead : leadB (endsOf ds) rs (frontK (z, so, i) l l.length) o by_ with
    | false =>
      exact iteF ⟨_, _, _, ys, l, rfl, f16, f2.same (z45.trans z56), f3, f4, by omega, pen6.mono (by omega), sb46⟩
    | true =>
      refine iteT ⟨_, rfl, .inl ⟨rfl, _, SqL.of f16⟩, _, rfl, _, rfl, by show 2 ≤ sizeLine; omega, fun t3 nt3 => ?_⟩
      have s3 := sameNew nt3 (.tup [V.ref u, V.int by_])
      have f17 := s3 _ _ f16
      have t3X : t3 ∉ F' :: X := ((al4.sb sb5 pen5).same s6).out nt3
      have t3F : t3 ≠ F' := fun z => t3X (by rw [z]; exact List.mem_cons_self)
      have z67 := zn_mono (X := F' :: X) s3
      refine ⟨F', _, _, rfl, rfl, f17, by omega, ?_⟩
      refine ⟨_, _, _, ys ++ [V.ref t3], l ++ [(o, by_)], rfl, upd_same, ?_, ⟨f3.s0, fun x hx => ?_⟩, chain_snoc f4 lead, by rw [List.length_append]; show l.length + 1 ≤ _; omega, (((pen6.same s3).upd Fp Fc _)).mono (by omega), (sb46.trans (Sb.same s3)).new nFH Fp _⟩
      · rw [chainP_app]
        refine .snoc (f2.same (z45.trans (z56.trans (z67.trans (zn_upd List.mem_cons_self))))) (.tup (xs := [V.ref u, V.int by_]) ?_ (.cons (.tup ((z56.trans (z67.trans (zn_upd List.mem_cons_self))) _ _ hu5) (.cons (.str _) (.cons (.str _) (.cons (.int _) .nil)))) (.cons (.int _) .nil)))
        rw [zn_out t3X, upd_ne t3F, upd_same]
      · rcases List.mem_append.mp hx with hx | hx
        · exact f3.ss x hx
        · rw [List.mem_singleton.mp hx]
          exact ⟨say_k ho c1 c2, c3, c4⟩
  · rintro σ H4 ⟨v4, v5, v6, ys, l, rfl, f1, f2, f3, f4, f5, pen4, sb4⟩
    exact ⟨_, rfl, k F' (z, so, i) l H4 (pen4.mono (by omega)) sb4 (.lst (by rw [zn_out ((al2).out nF)]; exact f1) (f2.same zn_drop)) f3 f4 (by omega)⟩
end
end Pk
end
section
set_option maxHeartbeats 1000000
/-! The law's own: bent. -/
namespace Pk
open PySem L2
abbrev sLBent : Stmt := topH 68
abbrev nLBent : List Str := ["_law_pen_here", "_law_house_here", "_law_at_here", "_law_chain_here", "_law_k", "_law_turn", "_law_saying_here", "_law_by", "_law_number"]
theorem scLBent : FnScope nLBent ["_law_pen_here", "_law_house_here", "_law_at_here", "_law_chain_here"] (defScope sLBent) := ⟨rfl, rfl, rfl, by decide +kernel, rfl, by decide +kernel, by decide +kernel⟩
/-- a later row of a chain, its first one -/
def LinkK (ns : List Str) (n : Nat) (d : PyData) : Prop := ∃ (s : Say) (b : Int), d = .tuple [sayP s, .int b] ∧ sayingD ns (sayP s) = true ∧ -1 ≤ b ∧ b < (n : Nat)
def FirstK (ns : List Str) (d : PyData) : Prop := ∃ s : Say, d = .tuple [sayP s, .none] ∧ sayingD ns (sayP s) = true
def OkC (ns : List Str) (n : Nat) (cs : List PyData) : Prop := ∃ f r, cs = f :: r ∧ FirstK ns f ∧ ∀ d ∈ r, LinkK ns n d
theorem okC_of {ns : List Str} {n : Nat} {s0 : Say} {l : List (Say × Int)} (h : ChainK ns n s0 l) : OkC ns n (chainP s0 l) := ⟨_, _, rfl, ⟨s0, rfl, h.s0⟩, fun d hd => by
  obtain ⟨p, hp, rfl⟩ := List.mem_map.mp hd
  obtain ⟨a, b, c⟩ := h.ss p hp
  exact ⟨p.1, p.2, rfl, a, b, c⟩⟩
theorem links_of {ns : List Str} {n : Nat} : ∀ {r : List PyData}, (∀ d ∈ r, LinkK ns n d) → ∃ l : List (Say × Int), r = (l.map fun p => PyData.tuple [sayP p.1, .int p.2]) ∧ ∀ p ∈ l, sayingD ns (sayP p.1) = true ∧ -1 ≤ p.2 ∧ p.2 < (n : Nat)
  | [], _ => ⟨[], rfl, fun _ h => by simp at h⟩
  | d :: r, h => by
    obtain ⟨s, b, rfl, a1, a2, a3⟩ := h d List.mem_cons_self
    obtain ⟨l, rfl, hl⟩ := links_of fun e he => h e (List.mem_cons_of_mem _ he)
    refine ⟨(s, b) :: l, rfl, fun p hp => ?_⟩
    rcases List.mem_cons.mp hp with rfl | hp
    · exact ⟨a1, a2, a3⟩
    · exact hl p hp
theorem OkC.chain {ns : List Str} {n : Nat} {cs : List PyData} (h : OkC ns n cs) : ∃ s0 l, cs = chainP s0 l ∧ ChainK ns n s0 l ∧ l.length + 1 = cs.length := by
  obtain ⟨f, r, rfl, ⟨s0, rfl, h0⟩, hr⟩ := h
  obtain ⟨l, rfl, hl⟩ := links_of hr
  exact ⟨s0, l, rfl, ⟨h0, hl⟩, by simp⟩
theorem OkC.at0 {ns : List Str} {n : Nat} {cs : List PyData} (h : OkC ns n cs) {d : PyData} (hd : cs[0]? = some d) : FirstK ns d := by
  obtain ⟨f, r, rfl, hf, _⟩ := h
  cases hd
  exact hf
theorem OkC.at1 {ns : List Str} {n : Nat} {cs : List PyData} (h : OkC ns n cs) {k : Nat} (hk : k ≠ 0) {d : PyData} (hd : cs[k]? = some d) : LinkK ns n d := by
  obtain ⟨f, r, rfl, _, hr⟩ := h
  cases k with
  | zero => exact (hk rfl).elim
  | succ k => exact hr d (List.mem_of_getElem? hd)
theorem OkC.mid {ns : List Str} {n : Nat} {cs mid : List PyData} (h : OkC ns n cs) {k : Nat} (hk : k ≠ 0) (hm : ∀ d ∈ mid, LinkK ns n d) : OkC ns n (cs.take k ++ mid ++ cs.drop (k + 1)) := by
  obtain ⟨f, r, rfl, hf, hr⟩ := h
  cases k with
  | zero => exact (hk rfl).elim
  | succ k =>
    refine ⟨f, r.take k ++ mid ++ r.drop (k + 1), rfl, hf, fun d hd => ?_⟩
    rcases List.mem_append.mp hd with hd | hd
    · rcases List.mem_append.mp hd with hd | hd
      · exact hr d (List.mem_of_mem_take hd)
      · exact hm d hd
    · exact hr d (List.mem_of_mem_drop hd)
theorem OkC.head {ns : List Str} {n : Nat} {cs : List PyData} (h : OkC ns n cs) {e : PyData} (he : FirstK ns e) : OkC ns n (cs.take 0 ++ [e] ++ cs.drop (0 + 1)) := by
  obtain ⟨f, r, rfl, hf, hr⟩ := h
  exact ⟨e, r, rfl, he, hr⟩
theorem mid_len {cs mid : List PyData} {k : Nat} (h : k < cs.length) : (cs.take k ++ mid ++ cs.drop (k + 1)).length = cs.length - 1 + mid.length := by
  simp only [List.length_append, List.length_take, List.length_drop]
  omega
theorem tr_take {H : Hp} : ∀ {xs : List V} {ds : List PyData} (k : Nat), TrAll H xs ds → TrAll H (xs.take k) (ds.take k)
  | _, _, 0, _ => .nil
  | _, _, k + 1, .nil => .nil
  | _, _, k + 1, .cons a b => .cons a (tr_take k b)
theorem tr_drop {H : Hp} : ∀ {xs : List V} {ds : List PyData} (k : Nat), TrAll H xs ds → TrAll H (xs.drop k) (ds.drop k)
  | _, _, 0, h => h
  | _, _, k + 1, .nil => .nil
  | _, _, k + 1, .cons a b => tr_drop k b
theorem tr_app {H : Hp} : ∀ {xs ys : List V} {ds es : List PyData}, TrAll H xs ds → TrAll H ys es → TrAll H (xs ++ ys) (ds ++ es)
  | _, _, _, _, .nil, h => h
  | _, _, _, _, .cons a b, h => .cons a (tr_app b h)
def spLBent : Sp := fun vs H Q _ => ∃ (p c h d L : Addr) (X : List Addr) (n wd : Int) (ds rs : List PyData) (es : List (Str × Int)) (s0 : Say) (l : List (Say × Int)), vs = [.ref p, .ref h, .ref d, .ref L] ∧ 0 ≤ wd ∧ wd ≤ 1000000000000000000 ∧ PenC H p c n ∧ Al p X H ∧ n ≤ 190000000 ∧ HouseAt (zn X H) h ds rs ∧ (∀ d ∈ ds, spanLe wd d) ∧ AtD H d ds es ∧ Tr (zn X H) (.ref L) (.list (chainP s0 l)) ∧ ChainK (ds.map nameOf) rs.length s0 l ∧ l.length ≤ 11 ∧
  ∀ (r : Addr) (s1 : Say) (l1 : List (Say × Int)) (H' : Hp), PenC H' p c (n + 20) → Sb p H H' → Tr (zn X H') (.ref r) (.list (chainP s1 l1)) → ChainK (ds.map nameOf) rs.length s1 l1 → l1.length ≤ 12 → Q (.ref r) H'
/-- the end: one row otherwise -/
def tBent (X : List Addr) (p c : Addr) (N : Int) (ns : List Str) (n : Nat) (cs : List PyData) : TS := fun D σ H => ∃ (w1 w2 w5 w8 : Option V) (L u : Addr) (k : Nat) (o : Say) (v : V), σ = [some (.ref p), w1, w2, some (.ref L), some (.int (k : Nat)), w5, some (.ref u), some v, w8] ∧ PenC H p c N ∧ Al p X H ∧ Tr (zn X H) (.ref L) (.list cs) ∧ OkC ns n cs ∧ k < cs.length ∧ cs.length ≤ 100 ∧
  zn X H u = some (.tup (sayV o)) ∧ sayingD ns (sayP o) = true ∧ (k = 0 → v = .non) ∧ (k ≠ 0 → ∃ b, v = .int b ∧ -1 ≤ b ∧ b < (n : Nat)) ∧
  ∀ (r : Addr) (es : List PyData) (H' : Hp), Same H H' → Tr (zn X H') (.ref r) (.list es) → OkC ns n es → es.length ≤ cs.length + 1 → D.rt (.ref r) H'
theorem say_at {H : Hp} {u : Addr} {o : Say} (h : H u = some (.tup (sayV o))) : Tr H (.ref u) (sayP o) := .tup h (.cons (.str _) (.cons (.str _) (.cons (.int _) .nil)))
theorem row_at {H : Hp} {xs : List V} {ns : List Str} {n : Nat} {cs : List PyData} (al : TrAll H xs cs) (ok : OkC ns n cs) {k : Nat} (hk : k < cs.length) : ∃ (b q : Addr) (o : Say) (v : V), xs[k]? = some (.ref b) ∧ H b = some (.tup [.ref q, v]) ∧ H q = some (.tup (sayV o)) ∧ sayingD ns (sayP o) = true ∧ (k = 0 → v = .non) ∧ (k ≠ 0 → ∃ b, v = .int b ∧ -1 ≤ b ∧ b < (n : Nat)) := by
  have xl := al.length
  have hx : xs[k]? = some xs[k] := List.getElem?_eq_getElem (by omega)
  obtain ⟨d, hd, t⟩ := al.get hx
  rw [hx]
  generalize xs[k] = x at t
  by_cases c : k = 0
  · subst c
    obtain ⟨s, rfl, hs⟩ := ok.at0 hd
    cases t with
    | @tup b ys _ hb alb =>
    match ys, alb with
    | [_, _], .cons ta (.cons .non .nil) =>
    obtain ⟨q, rfl, hq⟩ := say_tr ta
    exact ⟨b, q, s, _, rfl, hb, hq, hs, fun _ => rfl, fun z => (z rfl).elim⟩
  · obtain ⟨s, i, rfl, hs, i1, i2⟩ := ok.at1 c hd
    cases t with
    | @tup b ys _ hb alb =>
    match ys, alb with
    | [_, _], .cons ta (.cons (.int _) .nil) =>
    obtain ⟨q, rfl, hq⟩ := say_tr ta
    exact ⟨b, q, s, _, rfl, hb, hq, hs, fun z => (c z).elim, fun _ => ⟨i, rfl, i1, i2⟩⟩
section
variable {P : Program} {w : World} {K : PySem.W.Frag} {mg : Str → Option Value} {base : Heap}
set_option maxHeartbeats 4000000 in
theorem ok_lbent {f g1 g2 g3 : Addr} {fd d1 d2 d3 : FuncData} (F : Fun K "_law_bent" "_law_bent" sLBent f fd) (B : Blt mg)
    (G1 : FnOk P w K mg base CX0 1 g1 d1 ["_law_pen_here", "_law_many"] spDrawC) (b1 : Binds K d1 ["_law_pen_here", "_law_many"] []) (k1 : PySem.W.keepIn K (.ref g1) = true) (m1 : mg "_law_draw" = some (.ref g1))
    (G2 : FnOk P w K mg base CX0 3 g2 d2 ["_law_pen_here", "_law_dials_here", "_law_at_here"] spSayW) (b2 : Binds K d2 ["_law_pen_here", "_law_dials_here", "_law_at_here"] []) (k2 : PySem.W.keepIn K (.ref g2) = true) (m2 : mg "_law_saying" = some (.ref g2))
    (G3 : FnOk P w K mg base CX0 2 g3 d3 ["_law_pen_here", "_law_lot"] spPick) (b3 : Binds K d3 ["_law_pen_here", "_law_lot"] []) (k3 : PySem.W.keepIn K (.ref g3) = true) (m3 : mg "_law_pick" = some (.ref g3)) :
    FnOk P w K mg base CX0 4 f fd ["_law_pen_here", "_law_house_here", "_law_at_here", "_law_chain_here"] spLBent := by
  refine F.ok scLBent (fun vs H Q E h => ?_) (fun cdv A outer s H vs Q E hr h => ?_)
  · obtain ⟨p, c, h, d, L, X, n, wd, ds, rs, es, s0, l, rfl, _⟩ := h
    rfl
  obtain ⟨p, c, h, d, L, X, n, wd, ds, rs, es, s0, l, rfl, wd1, wd2, pen, al, hn, hhz, sp, ad, tL, hc, hl, kk⟩ := h
  have hr1 : Room 1 _ := hr.mono (by decide)
  have hr2 : Room 2 _ := hr.mono (by decide)
  have sl := sizeLine_eq
  have fg := farG
  have gg := greatG
  have hg := hhz.hg
  have r2 := hg.r2
  refine ⟨_, pss_cons (ps_par (i := 4) (j := 5) (by rfl) scLBent.nd rfl rfl (by decide) rfl rfl (pa_cons (pe_call G1 hr1 rfl m1 k1 b1 .nil pass0 (pa_cons (pv 0) (pa_cons (pe_callB call_len_seq (by rfl) B.len PySem.boot_len (pa_cons (pv 3) pa_nil)) pa_nil))) (pa_cons (pe_call G1 hr1 rfl m1 k1 b1 .nil pass0 (pa_cons (pv 0) (pa_cons pe_int pa_nil))) pa_nil)) (by rfl)) <|
    pss_cons (ps_asg (pe_ix ix_list (pv 3) (pv 4) (fun _ _ => rfl)) (pg_tup (by rfl) (pgs_cons (pg_name (i := 6) scLBent.nd rfl (.inl rfl)) <| pgs_cons (pg_name (i := 7) scLBent.nd rfl (.inl rfl)) pgs_nil))) <|
    pss_cons (ps_if (pt_cmpR op_eq (pv 5) pe_int (nomark _)) (pss_one (ps_set (i := 6) scLBent.nd rfl (.inl rfl) (pe_call G2 hr rfl m2 k2 b2 .nil pass0 (pa_cons (pv 0) (pa_cons (pe_ix ix_tup (pv 1) pe_int (fun _ _ => rfl)) (pa_cons (pv 2) pa_nil))))))
      (pss_one (ps_if (pt_cmpR op_eq (pv 5) pe_int (nomark _))
        (pss_cons (ps_set (i := 8) scLBent.nd rfl (.inl rfl) (pe_op op_add (pe_ix ix_tup (pv 6) pe_int (fun _ _ => rfl)) (pe_call G3 hr2 rfl m3 k3 b3 .nil pass0 (pa_cons (pv 0) (pa_cons (pe_lst (pa_cons pe_int (pa_cons (pe_op op_sub pe_int pe_int) pa_nil))) pa_nil)))))
          (pss_one (ps_set (i := 6) scLBent.nd rfl (.inl rfl) (pe_tup (pa_cons (pe_ix ix_tup (pv 6) pe_int (fun _ _ => rfl)) (pa_cons (pe_ix ix_tup (pv 6) pe_int (fun _ _ => rfl)) (pa_cons (pe_callB (call_max2 rfl) (by rfl) B.max (by decide +kernel) (pa_cons (pe_op op_sub pe_int (pe_op op_pow pe_int pe_int)) (pa_cons (pe_callB (call_min2 rfl) (by rfl) B.min (by decide +kernel) (pa_cons (pe_op op_pow pe_int pe_int) (pa_cons (pv 8) pa_nil))) pa_nil))) pa_nil)))))))
        (pss_one (ps_if (PW.pt (pw_and (pt_cmpR op_eq (pv 5) pe_int (nomark _)) (pw_and1 (pt_cmpR op_notN (pv 7) pe_non (nomark _)))))
          (pss_one (ps_set (i := 7) scLBent.nd rfl (.inl rfl) (pe_op op_sub (pe_call G1 hr1 rfl m1 k1 b1 .nil pass0 (pa_cons (pv 0) (pa_cons (pe_op op_add (pe_callB call_len_seq (by rfl) B.len PySem.boot_len (pa_cons (pe_ix ix_tup (pv 1) pe_int (fun _ _ => rfl)) pa_nil)) pe_int) pa_nil))) pe_int)))
          (pss_one (ps_if (PW.pt (pw_and (pt_cmpR op_eq (pv 5) pe_int (nomark _)) (pw_and1 (pt_cmpR op_gt (pv 4) pe_int (nomark _)))))
            (pss_one (ps_ret (pe_op op_cat (pe_slice sl_list (pv 3) po_none (po_some (pv 4))) (pe_slice sl_list (pv 3) (po_some (pe_op op_add (pv 4) pe_int)) po_none))))
            (pss_one (ps_if (pt_cmpR op_gt (pv 4) pe_int (nomark _))
              (pss_one (ps_ret (pe_op op_cat (pe_op op_cat (pe_slice sl_list (pv 3) po_none (po_some (pv 4))) (pe_lst (pa_cons (pe_ix ix_list (pv 3) (pv 4) (fun _ _ => rfl)) (pa_cons (pe_tup (pa_cons (pe_ix ix_tup (pe_ix ix_list (pv 3) (pe_op op_sub (pv 4) pe_int) (fun _ _ => rfl)) pe_int (fun _ _ => rfl)) (pa_cons (pe_op op_sub (pe_call G1 hr1 rfl m1 k1 b1 .nil pass0 (pa_cons (pv 0) (pa_cons (pe_op op_add (pe_callB call_len_seq (by rfl) B.len PySem.boot_len (pa_cons (pe_ix ix_tup (pv 1) pe_int (fun _ _ => rfl)) pa_nil)) pe_int) pa_nil))) pe_int) pa_nil))) pa_nil)))) (pe_slice sl_list (pv 3) (po_some (pe_op op_add (pv 4) pe_int)) po_none))))
              pss_nil))))))))) <|
    pssW (u := tBent X p c (n + 20) (ds.map nameOf) rs.length (chainP s0 l)) (pss_one (ps_ret (pe_op op_cat (pe_op op_cat (pe_slice sl_list (pv 3) po_none (po_some (pv 4))) (pe_lst (pa_cons (pe_tup (pa_cons (pv 6) (pa_cons (pv 7) pa_nil))) pa_nil))) (pe_slice sl_list (pv 3) (po_some (pe_op op_add (pv 4) pe_int)) po_none)))) ?tail, ?_⟩
  case tail =>
    rintro D σ H ⟨w1, w2, w5, w8, L, u, k, o, v, rfl, pen, al, tL, ok, hk, h100, hu, ho, v0, v1, fin⟩
    obtain ⟨xs, hL, hLX, alx⟩ : ∃ xs, H L = some (.lst xs) ∧ L ∉ X ∧ TrAll (zn X H) xs (chainP s0 l) := by
      cases tL with
      | lst h a => exact ⟨_, (zn_some h).2, (zn_some h).1, a⟩
    have xl := alx.length
    refine ⟨_, rfl, _, rfl, (k : Int), rfl, L, xs, rfl, SqL.of hL, fun q1 n1 => ?_⟩
    have s1 := sameNew n1 (.lst (cutV xs none (some (k : Int))))
    refine ⟨_, rfl, _, rfl, by show 2 ≤ sizeLine; omega, fun t nt => ?_⟩
    have s2 := sameNew nt (.tup [V.ref u, v])
    refine ⟨by show 1 ≤ sizeLine; omega, fun N nN => ?_⟩
    have s3 := sameNew nN (.lst [V.ref t])
    have e1 := s3 _ _ (s2 _ _ (upd_same (H := H) (a := q1) (o := .lst (cutV xs none (some (k : Int))))))
    have e2 := s3 _ _ (upd_same (H := L2.upd H q1 (.lst (cutV xs none (some (k : Int))))) (a := t) (o := .tup [V.ref u, v]))
    have s13 := s1.trans (s2.trans s3)
    have ntH : H t = none := s1.free nt
    rw [cut_to (xs := xs) (i := k) (by omega)] at *
    generalize hH3 : L2.upd (L2.upd (L2.upd H q1 (.lst (xs.take k))) t (.tup [V.ref u, v])) N (.lst [V.ref t]) = H3 at *
    have e3 : H3 N = some (.lst [V.ref t]) := by rw [← hH3]; exact upd_same
    clear hH3 s1 s2 s3
    refine ⟨q1, N, _, _, rfl, rfl, e1, e3, by rw [List.length_take]; show min k xs.length + 1 ≤ sizeLine; omega, fun q2 n2 => ?_⟩
    have s4 := sameNew n2 (.lst (xs.take k ++ [V.ref t]))
    refine ⟨_, rfl, _, rfl, _, _, rfl, rfl, (k : Int) + 1, rfl, L, xs, rfl, SqL.of (s4 _ _ (s13 _ _ hL)), fun q3 n3 => ?_⟩
    rw [show cutV xs (some ((k : Int) + 1)) none = xs.drop (k + 1) from cut_from (xs := xs) (i := k + 1) (by omega)]
    have s5 := sameNew n3 (.lst (xs.drop (k + 1)))
    refine ⟨q2, q3, _, _, rfl, rfl, s5 _ _ upd_same, upd_same, by simp only [List.length_append, List.length_take, List.length_drop, List.length_singleton]; omega, fun r nr => ?_⟩
    have s6 := sameNew nr (.lst (xs.take k ++ [V.ref t] ++ xs.drop (k + 1)))
    have sA := s13.trans (s4.trans (s5.trans s6))
    have rX : r ∉ X := (((al.same s13).same s4).same s5).out nr
    have tX : t ∉ X := al.out ntH
    have z := zn_mono (X := X) sA
    have ht : zn X (L2.upd (L2.upd (L2.upd H3 q2 (.lst (xs.take k ++ [V.ref t]))) q3 (.lst (xs.drop (k + 1)))) r (.lst (xs.take k ++ [V.ref t] ++ xs.drop (k + 1)))) t = some (.tup [V.ref u, v]) := by
      rw [zn_out tX]
      exact s6 _ _ (s5 _ _ (s4 _ _ e2))
    by_cases c0 : k = 0
    · have ev := v0 c0
      subst ev c0
      refine fin r _ _ sA (.lst (by rw [zn_out rX, upd_same]) (tr_app (tr_app (tr_take 0 (alx.same z)) (.cons (.tup ht (.cons (say_at (z _ _ hu)) (.cons .non .nil))) .nil)) (tr_drop 1 (alx.same z)))) (ok.head ⟨o, rfl, ho⟩) (by rw [mid_len hk]; show _ - 1 + 1 ≤ _; omega)
    · obtain ⟨b, rfl, b1, b2⟩ := v1 c0
      refine fin r _ _ sA (.lst (by rw [zn_out rX, upd_same]) (tr_app (tr_app (tr_take k (alx.same z)) (.cons (.tup ht (.cons (say_at (z _ _ hu)) (.cons (.int b) .nil))) .nil)) (tr_drop (k + 1) (alx.same z)))) (ok.mid c0 fun d hd => ?_) (by rw [mid_len hk]; show _ - 1 + 1 ≤ _; omega)
      rw [List.mem_singleton.mp hd]
      exact ⟨o, b, rfl, ho, b1, b2⟩
  have ok := okC_of hc
  obtain ⟨xs, hL, hLX, alx⟩ : ∃ xs, H L = some (.lst xs) ∧ L ∉ X ∧ TrAll (zn X H) xs (chainP s0 l) := by
    cases tL with
    | lst h a => exact ⟨_, (zn_some h).2, (zn_some h).1, a⟩
  have cl : (chainP s0 l).length = l.length + 1 := by
    show (l.map _).length + 1 = _
    rw [List.length_map]
  have xl := alx.length
  have Lp : L ≠ p := fun z => hLX (by rw [z]; exact al.mem)
  obtain ⟨dt, rt, xd, ys, hh', hdt, hrt, hp', hrtx, alD, alr⟩ : ∃ dt rt xd ys, H h = some (.tup [.ref dt, .ref rt]) ∧ Tr (zn X H) (.ref dt) (.tuple ds) ∧ H rt = some (.tup ys) ∧ h ≠ p ∧ rt ≠ p ∧ TrAll (zn X H) xd ds ∧ TrAll (zn X H) ys rs := by
    have th := hhz.tr
    cases th with
    | @tup _ hs _ e al' =>
    match hs, al' with
    | [_, _], .cons (.tup (a := dt) hd ad') (.cons (.tup (a := rt) hr' ar') .nil) =>
      obtain ⟨z1, z2⟩ := zn_some e
      obtain ⟨z3, z4⟩ := zn_some hr'
      exact ⟨dt, rt, _, _, z2, .tup hd ad', z4, fun z => z1 (by rw [z]; exact al.mem), fun z => z3 (by rw [z]; exact al.mem), ad', ar'⟩
  have yl := alr.length
  -- which row, how
  refine ⟨_, rfl, _, rfl, L, _, rfl, .inl (SqL.of hL), p, c, _, _, rfl, pen, by omega, by omega, by omega, fun kv H1 a1 a2 pen1 sb1 => ?_⟩
  refine ⟨_, rfl, p, c, _, _, rfl, pen1, by omega, by decide, by decide, fun tv H2 a3 a4 pen2 sb2 => ?_⟩
  have sb12 := sb1.trans sb2
  obtain ⟨k, rfl⟩ : ∃ k : Nat, kv = (k : Int) := ⟨kv.toNat, by omega⟩
  have hk : k < (chainP s0 l).length := by omega
  have z12 : Same (zn X H) (zn X H2) := zn_sb sb12 al.mem
  obtain ⟨b, q, o, v, hx, hb, hq, ho, v0, v1⟩ := row_at (alx.same z12) ok hk
  have ix : atI xs ((k : Nat) : Int) = some (.ref b) := atI_nat hx
  have hL2 := sb12.to Lp hL
  have al2 := al.sb sb12 pen2
  refine ⟨_, _, rfl, _, rfl, _, rfl, L, _, _, _, rfl, rfl, SqL.of hL2, ix, b, _, rfl, SqT.of (zn_le _ _ hb), rfl, _, _, rfl, _, _, rfl, rfl, ?_⟩
  have end_ : ∀ (r : Addr) (es' : List PyData) (H3 H' : Hp), PenC H3 p c (n + 20) → Sb p H H3 → Same H3 H' → Tr (zn X H') (.ref r) (.list es') → OkC (ds.map nameOf) rs.length es' → es'.length ≤ (chainP s0 l).length + 1 → Q (.ref r) H' := fun r es' H3 H' pen3 sb3 s' tr ok' hl' => by
    obtain ⟨s1, l1, rfl, hc1, e1⟩ := ok'.chain
    exact kk r s1 l1 H' (pen3.same s') (sb3.trans (Sb.same s')) tr hc1 (by omega)
  have pen2' : PenC H2 p c (n + 20) := pen2.mono (by omega)
  have tL2 : Tr (zn X H2) (.ref L) (.list (chainP s0 l)) := tL.same z12
  have hq2 := zn_le _ _ hq
  have hh2 := sb12.to hp' hh'
  have hrt2 := sb12.to hrtx hrt
  refine ⟨_, rfl, rfl, _, rfl, ?_⟩
  refine ite2 (fun _ => ?_) (fun _ => ?_)
  · -- another saying
    refine ⟨_, rfl, _, rfl, h, _, _, _, rfl, rfl, SqT.of hh2, (rfl : atI [V.ref dt, V.ref rt] 0 = some (.ref dt)), _, rfl, p, c, dt, d, X, _, wd, ds, es, rfl, wd1, wd2, pen2, al2, by omega, ⟨hdt.same z12, hg.d1, hg.d2, fun x hx => ⟨hg.dials x hx, sp x hx⟩⟩, ad.sb pen sb12, fun s z so i H3 pen3 sb3 hs sX hz hso i1 i2 => ?_⟩
    have sb13 := sb12.trans sb3
    exact ⟨_, _, _, _, L, s, k, (z, so, i), v, rfl, pen3.mono (by omega), al.sb sb13 pen3, tL.same (zn_sb sb13 al.mem), ok, hk, by omega, by rw [zn_out sX]; exact hs, say_of hz hso (by show -greatS ≤ i; omega) (by show i ≤ greatS; omega), v0, v1, fun r es' H' s' tr ok' hl' => end_ r es' H3 H' (pen3.mono (by omega)) sb13 s' tr ok' hl'⟩
  refine ⟨_, rfl, rfl, _, rfl, ?_⟩
  refine ite2 (fun _ => ?_) (fun _ => ?_)
  · -- another number
    refine ⟨_, rfl, q, _, _, _, rfl, rfl, SqT.of hq2, (rfl : atI (sayV o) 2 = some (V.int o.2.2)), _, rfl, _, _, rfl, rfl, by show 2 ≤ sizeLine; omega, fun e he => ?_⟩
    have se := sameNew he (.lst [V.int 1, V.int (0 - 1)])
    refine .inl ⟨p, c, e, _, _, rfl, pen2.same se, by omega, pen2.newp he, .inl upd_same, by simp, by simp, fun x H3 hx pen3 sb3 => ?_⟩
    obtain ⟨lv, rfl⟩ : ∃ lv : Int, x = .int lv := by
      simp only [List.mem_cons, List.not_mem_nil, or_false] at hx
      rcases hx with rfl | rfl <;> exact ⟨_, rfl⟩
    have sb23 : Sb p H2 H3 := (Sb.same se).trans sb3
    have sb13 := sb12.trans sb23
    have hq3 := zn_le _ _ (zn_sb sb23 al.mem _ _ hq)
    have sk := sayK_sayP ho
    have fin : ∀ (v' : Int), -greatS ≤ v' → v' ≤ greatS → ∀ u', H3 u' = none → tBent X p c (n + 20) (ds.map nameOf) rs.length (chainP s0 l) ⟨fun _ _ => False, fun v H => Q v H, fun _ _ => False, fun _ _ => False⟩ [some (.ref p), some (.ref h), some (.ref d), some (.ref L), some (.int (k : Nat)), some (.int tv), some (.ref u'), some v, some (.int (o.2.2 + lv))] (L2.upd H3 u' (.tup [V.str o.1, V.str o.2.1, V.int v'])) := fun v' h1 h2 u' nu => by
      have su := sameNew nu (.tup [V.str o.1, V.str o.2.1, V.int v'])
      have al3 := al.sb sb13 pen3
      exact ⟨_, _, _, _, L, u', k, (o.1, o.2.1, v'), v, rfl, (pen3.same su).mono (by omega), al3.same su, tL.same ((zn_sb sb13 al.mem).trans (zn_mono su)), ok, hk, by omega, by rw [zn_out (al3.out nu), upd_same], say_of sk.nm sk.so h1 h2, v0, v1, fun r es' H' s' tr ok' hl' => end_ r es' _ H' ((pen3.same su).mono (by omega)) (sb13.trans (Sb.same su)) s' tr ok' hl'⟩
    refine ⟨_, _, rfl, rfl, _, rfl, q, _, _, _, rfl, rfl, SqT.of hq3, (rfl : atI (sayV o) 0 = some (V.str o.1)), _, rfl, q, _, _, _, rfl, rfl, SqT.of hq3, (rfl : atI (sayV o) 1 = some (V.str o.2.1)), _, _, rfl, rfl, ⟨by decide, by decide, by decide⟩, _, _, rfl, rfl, _, _, rfl, rfl, ⟨by decide, by decide, by decide⟩, _, rfl, _, _, rfl, _, _, rfl, by show 3 ≤ sizeLine; omega, fun u' nu => ?_⟩
    rw [ints20]
    exact fin _ clamp.1 clamp.2 u' nu
  refine (fun (hY : _) => ⟨_, rfl, rfl, _, rfl, ite2 (fun _ => ⟨_, rfl, rfl, _, rfl, ite2 (fun cn => ?_) (fun _ => hY)⟩) (fun _ => hY)⟩) ?_
  rotate_left
  · -- by another rule
    have k0 : k ≠ 0 := fun z => by
      rw [v0 z] at cn
      simp at cn
    refine ⟨_, rfl, _, rfl, h, _, _, _, rfl, rfl, SqT.of hh2, (rfl : atI [V.ref dt, V.ref rt] 1 = some (.ref rt)), rt, _, rfl, .inr (SqT.of hrt2), _, _, rfl, rfl, p, c, _, _, rfl, pen2, by omega, by omega, by omega, fun w H3 a5 a6 pen3 sb3 => ?_⟩
    have sb13 := sb12.trans sb3
    refine ⟨_, _, rfl, rfl, ?_⟩
    exact ⟨_, _, _, _, L, q, k, o, _, rfl, pen3.mono (by omega), al.sb sb13 pen3, tL.same (zn_sb sb13 al.mem), ok, hk, by omega, zn_sb sb3 al.mem _ _ hq, ho, fun z => (k0 z).elim, fun _ => ⟨_, rfl, by omega, by omega⟩, fun r es' H' s' tr ok' hl' => end_ r es' H3 H' (pen3.mono (by omega)) sb13 s' tr ok' hl'⟩
  refine (fun (hY : _) => ⟨_, rfl, rfl, _, rfl, ite2 (fun _ => ⟨_, rfl, _, _, rfl, rfl, _, rfl, ite2 (fun cn => ?_) (fun _ => hY)⟩) (fun _ => hY)⟩) ?_
  rotate_left
  · -- one out
    have k0 : k ≠ 0 := fun z => by
      rw [z] at cn
      simp at cn
    refine ⟨_, rfl, _, rfl, (k : Int), rfl, L, xs, rfl, SqL.of hL2, fun q1 n1 => ?_⟩
    rw [cut_to (xs := xs) (i := k) (by omega)]
    have s1 := sameNew n1 (.lst (xs.take k))
    refine ⟨_, rfl, _, rfl, _, _, rfl, rfl, (k : Int) + 1, rfl, L, xs, rfl, SqL.of (s1 _ _ hL2), fun q2 n2 => ?_⟩
    rw [show cutV xs (some ((k : Int) + 1)) none = xs.drop (k + 1) from cut_from (xs := xs) (i := k + 1) (by omega)]
    have s2 := sameNew n2 (.lst (xs.drop (k + 1)))
    refine ⟨q1, q2, _, _, rfl, rfl, s2 _ _ upd_same, upd_same, by simp only [List.length_take, List.length_drop]; omega, fun r nr => ?_⟩
    have s3 := sameNew nr (.lst (xs.take k ++ xs.drop (k + 1)))
    have sA := s1.trans (s2.trans s3)
    have rX : r ∉ X := ((al2.same s1).same s2).out nr
    have z := zn_mono (X := X) sA
    have m0 := ok.mid (mid := []) k0 (fun _ h => by simp at h)
    have ml := mid_len (mid := []) hk
    rw [List.append_nil] at m0 ml
    exact end_ r _ H2 _ pen2' sb12 sA (.lst (by rw [zn_out rX, upd_same]) (tr_app (tr_take k ((alx.same z12).same z)) (tr_drop (k + 1) ((alx.same z12).same z)))) m0 (by rw [ml]; show _ - 1 + 0 ≤ _; omega)
  refine ⟨_, rfl, _, _, rfl, rfl, _, rfl, ?_⟩
  refine ite2 (fun cn => ?_) (fun _ => ?_)
  · -- the one ahead once more
    have k0 : k ≠ 0 := fun z => by
      rw [z] at cn
      simp at cn
    obtain ⟨e, he, te⟩ := (alx.same z12).get hx
    have le := ok.at1 k0 he
    obtain ⟨b', q', o', v', hx', hb', hq', ho', _, _⟩ := row_at (alx.same z12) ok (k := k - 1) (by omega)
    have ix' : atI xs ((k : Int) - 1) = some (.ref b') := by
      rw [show ((k : Int) - 1) = ((k - 1 : Nat) : Int) by omega]
      exact atI_nat hx'
    refine ⟨_, rfl, _, rfl, (k : Int), rfl, L, xs, rfl, SqL.of hL2, fun q1 n1 => ?_⟩
    rw [cut_to (xs := xs) (i := k) (by omega)]
    have s1 := sameNew n1 (.lst (xs.take k))
    have q1p := pen2.newp n1
    refine ⟨_, rfl, _, rfl, L, _, _, _, rfl, rfl, SqL.of (s1 _ _ hL2), ix, _, rfl, _, rfl, _, _, rfl, rfl, L, _, _, _, rfl, rfl, SqL.of (s1 _ _ hL2), ix', b', _, _, _, rfl, rfl, SqT.of (s1 _ _ (zn_le _ _ hb')), (rfl : atI [V.ref q', v'] 0 = some (.ref q')), ?_⟩
    refine ⟨_, rfl, _, rfl, h, _, _, _, rfl, rfl, SqT.of (s1 _ _ hh2), (rfl : atI [V.ref dt, V.ref rt] 1 = some (.ref rt)), rt, _, rfl, .inr (SqT.of (s1 _ _ hrt2)), _, _, rfl, rfl, p, c, _, _, rfl, pen2.same s1, by omega, by omega, by omega, fun w H3 a5 a6 pen3 sb3 => ?_⟩
    have sb23 : Sb p H2 H3 := (Sb.same s1).trans sb3
    have sb13 := sb12.trans sb23
    have e1 : H3 q1 = some (.lst (xs.take k)) := sb3.to q1p upd_same
    have hL3 := sb23.to Lp hL2
    have z23 : Same (zn X H2) (zn X H3) := zn_sb sb23 al.mem
    have al3 := al.sb sb13 pen3
    refine ⟨_, _, rfl, rfl, by show 2 ≤ sizeLine; omega, fun t nt => ?_⟩
    have s2 := sameNew nt (.tup [V.ref q', V.int (w - 1)])
    refine ⟨by show 2 ≤ sizeLine; omega, fun N nN => ?_⟩
    have s3 := sameNew nN (.lst [V.ref b, V.ref t])
    have et := s3 _ _ (upd_same (H := H3) (a := t) (o := .tup [V.ref q', V.int (w - 1)]))
    have s23 := s2.trans s3
    have eN : L2.upd (L2.upd H3 t (.tup [V.ref q', V.int (w - 1)])) N (.lst [V.ref b, V.ref t]) N = some (.lst [V.ref b, V.ref t]) := upd_same
    generalize L2.upd (L2.upd H3 t (.tup [V.ref q', V.int (w - 1)])) N (.lst [V.ref b, V.ref t]) = H4 at et s23 eN
    refine ⟨q1, N, _, _, rfl, rfl, s23 _ _ e1, eN, by rw [List.length_take]; show min k xs.length + 2 ≤ sizeLine; omega, fun q2 n2 => ?_⟩
    have s4 := sameNew n2 (.lst (xs.take k ++ [V.ref b, V.ref t]))
    refine ⟨_, rfl, _, rfl, _, _, rfl, rfl, (k : Int) + 1, rfl, L, xs, rfl, SqL.of (s4 _ _ (s23 _ _ hL3)), fun q3 n3 => ?_⟩
    rw [show cutV xs (some ((k : Int) + 1)) none = xs.drop (k + 1) from cut_from (xs := xs) (i := k + 1) (by omega)]
    have s5 := sameNew n3 (.lst (xs.drop (k + 1)))
    refine ⟨q2, q3, _, _, rfl, rfl, s5 _ _ upd_same, upd_same, by simp only [List.length_append, List.length_take, List.length_drop, List.length_cons, List.length_nil]; omega, fun r nr => ?_⟩
    have s6 := sameNew nr (.lst (xs.take k ++ [V.ref b, V.ref t] ++ xs.drop (k + 1)))
    have sB := s4.trans (s5.trans s6)
    have sA := s23.trans sB
    have rX : r ∉ X := (((al3.same s23).same s4).same s5).out nr
    have z := z23.trans (zn_mono (X := X) sA)
    have tX : t ∉ X := al3.out nt
    have ht : zn X (L2.upd (L2.upd (L2.upd H4 q2 (.lst (xs.take k ++ [V.ref b, V.ref t]))) q3 (.lst (xs.drop (k + 1)))) r (.lst (xs.take k ++ [V.ref b, V.ref t] ++ xs.drop (k + 1)))) t = some (.tup [V.ref q', V.int (w - 1)]) := by
      rw [zn_out tX]
      exact sB _ _ et
    have alz := (alx.same z12).same z
    refine end_ r (((chainP s0 l).take k ++ [e, .tuple [sayP o', .int (w - 1)]]) ++ (chainP s0 l).drop (k + 1)) H3 _ (pen3.mono (by omega)) sb13 sA (.lst (by rw [zn_out rX, upd_same]) (tr_app (tr_app (tr_take k alz) (.cons (te.same z) (.cons (.tup ht (.cons (say_at (z _ _ hq')) (.cons (.int _) .nil))) .nil))) (tr_drop (k + 1) alz))) (ok.mid k0 fun d hd => ?_) (by rw [mid_len hk]; show _ - 1 + 2 ≤ _; omega)
    rcases List.mem_cons.mp hd with rfl | hd
    · exact le
    · rw [List.mem_singleton.mp hd]
      exact ⟨o', w - 1, rfl, ho', by omega, by omega⟩
  · -- as it is
    exact ⟨_, _, _, _, L, q, k, o, v, rfl, pen2', al2, tL2, ok, hk, by omega, hq, ho, v0, v1, fun r es' H' s' tr ok' hl' => end_ r es' H2 H' pen2' sb12 s' tr ok' hl'⟩
end
end Pk
end
/-! The law: what stands between its steps. -/
namespace Pk
open PySem L2
def spLaw (K : PySem.W.Frag) (cs : List (Addr × Addr)) : Sp := fun vs H Q _ => ∃ (a : Addr) (ns : List Int), vs = [.ref a] ∧ SqL K H a (ns.map V.int) ∧ ns.length ≤ 63 ∧ (∀ p ∈ cs, GxR.TabG H p.2) ∧ ∀ H', Q (.bl true) H'
/-- all that the law calls -/
structure Defs (P : Program) (w : World) (K : PySem.W.Frag) (mg : Str → Option Value) (base : Heap) (Ps : List Addr) : Prop where
  pen : ∃ f d, FnOk P w K mg base CX0 1 f d ["_law_script"] (spPenL K) ∧ Binds K d ["_law_script"] [] ∧ PySem.W.keepIn K (.ref f) = true ∧ mg "_law_pen" = some (.ref f)
  draw : ∃ f d, FnOk P w K mg base CX0 1 f d ["_law_pen_here", "_law_many"] spDrawC ∧ Binds K d ["_law_pen_here", "_law_many"] [] ∧ PySem.W.keepIn K (.ref f) = true ∧ mg "_law_draw" = some (.ref f)
  pick : ∃ f d, FnOk P w K mg base CX0 2 f d ["_law_pen_here", "_law_lot"] spPick ∧ Binds K d ["_law_pen_here", "_law_lot"] [] ∧ PySem.W.keepIn K (.ref f) = true ∧ mg "_law_pick" = some (.ref f)
  house : ∃ f d, FnOk P w K mg base CX0 5 f d ["_law_pen_here", "_law_many", "_law_wide", "_law_rules"] spHouseW ∧ Binds K d ["_law_pen_here", "_law_many", "_law_wide", "_law_rules"] [] ∧ PySem.W.keepIn K (.ref f) = true ∧ mg "_law_house" = some (.ref f)
  small : ∃ f d, FnOk P w K mg base CX0 6 f d ["_law_pen_here"] spSmall ∧ Binds K d ["_law_pen_here"] [] ∧ PySem.W.keepIn K (.ref f) = true ∧ mg "_law_small" = some (.ref f)
  at_ : ∃ f d, FnOk P w K mg base CX0 1 f d ["_law_house_here", "_law_numbers_here"] spLAt ∧ Binds K d ["_law_house_here", "_law_numbers_here"] [] ∧ PySem.W.keepIn K (.ref f) = true ∧ mg "_law_at" = some (.ref f)
  chain : ∃ f d, FnOk P w K mg base CX0 4 f d ["_law_pen_here", "_law_house_here", "_law_at_here"] spLChain ∧ Binds K d ["_law_pen_here", "_law_house_here", "_law_at_here"] [] ∧ PySem.W.keepIn K (.ref f) = true ∧ mg "_law_chain" = some (.ref f)
  isc : ∃ f d, FnOk P w K mg base CX0 9 f d ["house", "thing"] (spIsChain Ps) ∧ Binds K d ["house", "thing"] [] ∧ PySem.W.keepIn K (.ref f) = true ∧ mg "is_chain" = some (.ref f)
  all_ : ∃ f d, FnOk P w K mg base CX0 4 f d ["_law_house_here"] spLAll ∧ Binds K d ["_law_house_here"] [] ∧ PySem.W.keepIn K (.ref f) = true ∧ mg "_law_all" = some (.ref f)
  bent : ∃ f d, FnOk P w K mg base CX0 4 f d ["_law_pen_here", "_law_house_here", "_law_at_here", "_law_chain_here"] spLBent ∧ Binds K d ["_law_pen_here", "_law_house_here", "_law_at_here", "_law_chain_here"] [] ∧ PySem.W.keepIn K (.ref f) = true ∧ mg "_law_bent" = some (.ref f)
  lic : ∃ f d, FnOk P w K mg base CX0 4 f d ["_law_house_here", "_law_chain_here"] spLIsChain ∧ Binds K d ["_law_house_here", "_law_chain_here"] [] ∧ PySem.W.keepIn K (.ref f) = true ∧ mg "_law_is_chain" = some (.ref f)
  said : ∃ f d, FnOk P w K mg base CX0 1 f d ["_law_saying_here", "_law_at_here"] spHolds ∧ Binds K d ["_law_saying_here", "_law_at_here"] [] ∧ PySem.W.keepIn K (.ref f) = true ∧ mg "_law_said" = some (.ref f)
abbrev nLaw : List Str := ["_law_script", "_law_pen_here", "_law_turn", "_law_house_here", "_law_numbers_here", "_law_at_here", "_law_far", "_law_chain_here", "_law_rows", "_law_one", "_law_again", "_law_some", "_law_kept", "_law_due", "_law_bad", "_law_row"]
theorem scLaw : FnScope nLaw ["_law_script"] (defScope sLaw) := ⟨rfl, rfl, rfl, by decide +kernel, rfl, by decide +kernel, by decide +kernel⟩
theorem zn1_tabs {Ps : List Addr} {H : Hp} {p c : Addr} {n : Int} (t : Tabs Ps H) (P : PenC H p c n) : Tabs Ps (zn [p] H) := fun Q hQ => by
  obtain ⟨ps, h1, h2⟩ := t Q hQ
  refine ⟨ps, ?_, h2⟩
  rw [zn_out fun z => ?_]
  · exact h1
  · obtain ⟨kv, hp⟩ := P.atp
    rw [List.mem_singleton.mp z, hp] at h1
    cases h1
theorem zn1_grs {Ps : List Addr} {H H' : Hp} {p c : Addr} {n : Int} (t : Tabs Ps H) (P : PenC H p c n) (g : GrS Ps H H') : GrS Ps (zn [p] H) (zn [p] H') := by
  refine ⟨zn1_tabs g.1 (P.grs t g), fun b o hb e => ?_⟩
  obtain ⟨h1, h2⟩ := zn_some e
  rw [zn_out h1]
  exact g.2 b o hb h2
theorem Tr.zg {Ps : List Addr} {H H' : Hp} {p c : Addr} {n : Int} {x : V} {d : PyData} (h : Tr (zn [p] H) x d) (t : Tabs Ps H) (P : PenC H p c n) (g : GrS Ps H H') : Tr (zn [p] H') x d := h.grs (zn1_tabs t P) (zn1_grs t P g)
/-- what stands between two steps of the law -/
structure LwS (Ps : List Addr) (H : Hp) (p c h dd : Addr) (N : Int) (ds rs : List PyData) (es : List (Str × Int)) : Prop where
  pen : PenC H p c N
  tb : Tabs Ps H
  hh : HouseAt (zn [p] H) h ds rs
  ad : AtD H dd ds es
  sp : ∀ d ∈ ds, spanLe 1000000000000000000 d
theorem LwS.same {Ps : List Addr} {H H' : Hp} {p c h dd : Addr} {N : Int} {ds rs : List PyData} {es : List (Str × Int)} (l : LwS Ps H p c h dd N ds rs es) (s : Same H H') : LwS Ps H' p c h dd N ds rs es := ⟨l.pen.same s, l.tb.same s, l.hh.same (zn_mono s), l.ad.same s, l.sp⟩
theorem LwS.sb {Ps : List Addr} {H H' : Hp} {p c h dd : Addr} {N M : Int} {ds rs : List PyData} {es : List (Str × Int)} (l : LwS Ps H p c h dd N ds rs es) (s : Sb p H H') (P : PenC H' p c M) : LwS Ps H' p c h dd M ds rs es := ⟨P, l.tb.sb l.pen s, l.hh.same (zn_sb s List.mem_cons_self), l.ad.sb l.pen s, l.sp⟩
theorem LwS.grs {Ps : List Addr} {H H' : Hp} {p c h dd : Addr} {N : Int} {ds rs : List PyData} {es : List (Str × Int)} (l : LwS Ps H p c h dd N ds rs es) (g : GrS Ps H H') : LwS Ps H' p c h dd N ds rs es := ⟨l.pen.grs l.tb g, g.1, l.hh.grs (zn1_tabs l.tb l.pen) (zn1_grs l.tb l.pen g), l.ad.to (g.at l.tb l.ad.at_ (by intro q z; cases z)), l.sp⟩
theorem LwS.mono {Ps : List Addr} {H : Hp} {p c h dd : Addr} {N M : Int} {ds rs : List PyData} {es : List (Str × Int)} (l : LwS Ps H p c h dd N ds rs es) (e : N ≤ M) : LwS Ps H p c h dd M ds rs es := ⟨l.pen.mono e, l.tb, l.hh, l.ad, l.sp⟩
theorem LwS.al {Ps : List Addr} {H : Hp} {p c h dd : Addr} {N : Int} {ds rs : List PyData} {es : List (Str × Int)} (l : LwS Ps H p c h dd N ds rs es) : Al p [p] H := l.pen.al
/-- the rows: numbers by names, each a standing -/
structure Rws (H : Hp) (R : Addr) (dds : List Addr) (ds rs : List PyData) : Prop where
  at_ : H R = some (.lst (dds.map V.ref))
  len : dds.length ≤ 216
  row : ∀ d ∈ dds, ∃ is : List Int, H d = some (.dK ((atES ds is).map kvOf)) ∧ is.length = ds.length ∧ standR ds rs is
theorem Rws.same {H H' : Hp} {R : Addr} {dds : List Addr} {ds rs : List PyData} (r : Rws H R dds ds rs) (s : Same H H') : Rws H' R dds ds rs := ⟨s _ _ r.at_, r.len, fun d hd => let ⟨is, a, b⟩ := r.row d hd; ⟨is, s _ _ a, b⟩⟩
theorem Rws.grs {Ps : List Addr} {H H' : Hp} {R : Addr} {dds : List Addr} {ds rs : List PyData} (r : Rws H R dds ds rs) (t : Tabs Ps H) (g : GrS Ps H H') : Rws H' R dds ds rs := ⟨g.at t r.at_ (by intro q z; cases z), r.len, fun d hd => let ⟨is, a, b⟩ := r.row d hd; ⟨is, g.at t a (by intro q z; cases z), b⟩⟩
theorem row_none {q : PyData} (h : q.bulk ≤ 50) (e : q.depth ≤ 1) : (PyData.tuple [q, .none]).bulk ≤ 60 ∧ (PyData.tuple [q, .none]).depth ≤ 2 := by
  constructor
  · simp only [PyData.bulk, PyData.bulkAll]
    omega
  · simp only [PyData.depth, PyData.depthAll]
    omega
theorem row_int {q : PyData} {i : Int} (h : q.bulk ≤ 50) (e : q.depth ≤ 1) : (PyData.tuple [q, .int i]).bulk ≤ 60 ∧ (PyData.tuple [q, .int i]).depth ≤ 2 := by
  constructor
  · simp only [PyData.bulk, PyData.bulkAll]
    omega
  · simp only [PyData.depth, PyData.depthAll]
    omega
/-- what repr tells of a chain -/
theorem chain_rep {ds rs : List PyData} (hg : HouseG ds rs) {s0 : Say} {l : List (Say × Int)} (hc : ChainK (ds.map nameOf) rs.length s0 l) (hl : l.length ≤ 20) : (PyData.list (chainP s0 l)).showable = true ∧ (PyData.list (chainP s0 l)).depth ≤ 60 ∧ (PyData.list (chainP s0 l)).shown.length ≤ sizeLine := by
  have gg := greatG
  have r2 := hg.r2
  have sg : ∀ s : Say, sayingD (ds.map nameOf) (sayP s) = true → SayG (ds.map nameOf) (sayP s) := fun s hs => by
    obtain ⟨o, _, h1, h2⟩ := sayK_of hs
    have n1 := nmK_ok hg o.nm
    exact say_g o.nm n1 o.so h1 h2
  have each : ∀ d ∈ chainP s0 l, Pk.lv 0 d = true ∧ d.bulk ≤ 60 ∧ d.depth ≤ 2 := fun d hd => by
    rcases List.mem_cons.mp hd with rfl | hd
    · have g := sg s0 hc.s0
      exact ⟨by simp only [lv_tup, lvs, g.lv, Bool.and_self]; rfl, row_none g.bulk g.depth⟩
    · obtain ⟨x, hx, rfl⟩ := List.mem_map.mp hd
      obtain ⟨h1, h2, h3⟩ := hc.ss x hx
      have g := sg x.1 h1
      have i := int_lv (i := x.2) (by omega) (by omega)
      exact ⟨by simp only [lv_tup, lvs, g.lv, i, Bool.and_self], row_int g.bulk g.depth⟩
  have cl : (chainP s0 l).length = l.length + 1 := by
    show (l.map _).length + 1 = _
    rw [List.length_map]
  have a1 : Pk.lv 0 (.list (chainP s0 l)) = true := by rw [lv_lst]; exact lvs_all fun d hd => (each d hd).1
  have q1 := bulk_all (n := 60) fun d hd => (each d hd).2.1
  have q2 := depth_all (n := 2) fun d hd => (each d hd).2.2
  have lm : (60 + 1) * (chainP s0 l).length ≤ 61 * 21 := Nat.mul_le_mul_left _ (by omega)
  have a2 : (PyData.list (chainP s0 l)).bulk ≤ 2000 := by
    simp only [PyData.bulk]
    omega
  have a3 : (PyData.list (chainP s0 l)).depth ≤ 5 := by
    simp only [PyData.depth]
    omega
  exact ⟨(lv_ok (k := 0) (by omega) a1 (by omega)).2.1, by omega, lv_shown (k := 0) (by omega) a1 (by omega)⟩
/-- the ends of a dial hold what stands -/
theorem stand_ends {ds rs : List PyData} {is : List Int} (h : standR ds rs is) : ∀ z ∈ ds.map nameOf, (endsOf ds z).1 ≤ lookE (atES ds is) z ∧ lookE (atES ds is) z ≤ (endsOf ds z).2 := fun z hz => by
  cases e : ds.find? (fun d => nameOf d == z) with
  | none =>
    exfalso
    obtain ⟨d, hd, rfl⟩ := List.mem_map.mp hz
    have := List.find?_eq_none.mp e d hd
    simp at this
  | some d =>
    have hd := List.mem_of_find?_eq_some e
    have hn : nameOf d = z := by
      have := List.find?_some e
      simpa using this
    have ee : endsOf ds z = endsD d := by
      unfold endsOf
      rw [e]
    rw [ee, ← hn]
    exact h.1 d hd
/-- a chain that holds: what its first saying says there, its last one says -/
theorem stand_said {H : Hp} {h : Addr} {ds rs : List PyData} (hh : HouseAt H h ds rs) {is : List Int} (st : standR ds rs is) {s0 : Say} {l : List (Say × Int)} (hc : ChainK (ds.map nameOf) rs.length s0 l) (hb : chainB (endsOf ds) rs s0 l = true) (h0 : holdsS (lookE (atES ds is)) (sayP s0) = true) : holdsS (lookE (atES ds is)) (sayP (frontK s0 l l.length)) = true := by
  rw [holds_said] at h0 ⊢
  have hg := hh.hg
  obtain ⟨ys, alr⟩ : ∃ ys, TrAll H ys rs := by
    have th := hh.tr
    cases th with
    | @tup _ hs _ e al =>
    match hs, al with
    | [_, _], .cons _ (.cons (.tup (a := rt) hd ad) .nil) => exact ⟨_, ad⟩
  refine chain_said (ns := ds.map nameOf) (n := rs.length) (fun r hr => ?_) hc (stand_ends st) hb h0 l.length (Nat.le_refl _)
  obtain ⟨j, hj⟩ := List.getElem?_of_mem hr
  have jl := (List.getElem?_eq_some_iff.mp hj).1
  have yl := alr.length
  obtain ⟨r', hr', t⟩ := alr.get (List.getElem?_eq_getElem (show j < ys.length by omega))
  rw [hj] at hr'
  cases hr'
  obtain ⟨_, _, _, ok⟩ := rul_of t (hg.rules r hr)
  exact ⟨ok, by rw [rul_holds (hg.rules r hr).rule]; exact st.2 r hr⟩
/-- the great rule put behind -/
def bigR (a b : Str) (i : Int) : PyData := .tuple [.str "off", .str a, .str b, .int i]
theorem big_house {ds rs : List PyData} (hg : HouseG ds rs) (hs : ∀ r ∈ rs, SmallR r) (hl : rs.length ≤ 39) {a b : Str} {i : Int} (ha : a ∈ ds.map nameOf) (hb : b ∈ ds.map nameOf) (ne : a ≠ b) (h1 : -greatS ≤ i) (h2 : i ≤ greatS) (h3 : 4 * farS < i ∨ i < -(4 * farS)) : HouseG ds (rs ++ [bigR a b i]) := by
  have rg : RuleG (ds.map nameOf) (bigR a b i) := rule_pair (by decide +kernel) ha hb ne (nmK_ok hg ha) (nmK_ok hg hb) h1 h2
  refine ⟨hg.d1, hg.d2, by rw [List.length_append]; show rs.length + 1 ≤ 40; omega, hg.dials, fun r hr => ?_, hg.nd, hg.fd, fr_snoc rg.rule hg.fr ?_⟩
  · rcases List.mem_append.mp hr with hr | hr
    · exact hg.rules r hr
    · rw [List.mem_singleton.mp hr]
      exact rg
  · rw [List.nil_append, List.any_eq_false]
    intro z hz c
    rcases rule_is (hg.rules z hz).rule with ⟨p, q, rfl, _, _⟩ | ⟨w', a', b', c', rfl, _⟩
    · simp [bigR, PyData.eqv, PyData.eqvAll] at c
    · have q := hs _ hz w' a' b' c' rfl
      simp [bigR, PyData.eqv, PyData.eqvAll] at c
      omega
end Pk
/-! The law. -/
namespace Pk
open PySem L2
/-- the house is chosen -/
def tU1 (Ps : List Addr) : TS := fun D σ H => ∃ (a p c h y : Addr) (v5 v6 v7 v8 v10 v11 v12 v13 v14 : Option V) (i : Nat) (N : Int) (ds rs : List PyData) (is : List Int), σ = [some (.ref a), some (.ref p), some (.int (i : Nat)), some (.ref h), some (.ref y), v5, v6, v7, v8, none, v10, v11, v12, v13, v14, none] ∧ i < 4 ∧ N ≤ 100000 ∧ PenC H p c N ∧ Tabs Ps H ∧ HouseAt (zn [p] H) h ds rs ∧ H y = some (.tup (is.map V.int)) ∧ is.length = ds.length ∧ (∀ j ∈ is, -farS ≤ j ∧ j ≤ farS) ∧ (∀ d ∈ ds, spanLe 1000000000000000000 d) ∧ (i < 2 → ds.length ≤ 3 ∧ ∀ d ∈ ds, spanLe 5 d) ∧ (∀ r ∈ rs, SmallR r) ∧ (1 < i → rs.length ≤ 12) ∧
  ∀ (v3 v4 v5 v6 v7 v8 v10 v11 v12 v13 v14 : Option V) (H' : Hp), PenC H' p c (N + 2000) → Tabs Ps H' → D.nx [some (.ref a), some (.ref p), some (.int (i : Nat)), v3, v4, v5, v6, v7, v8, none, v10, v11, v12, v13, v14, none] H'
/-- the numbers by names stand -/
def tU2 (Ps : List Addr) : TS := fun D σ H => ∃ (a p c h dd : Addr) (v4 v6 v7 v8 v10 v11 v12 v13 v14 : Option V) (i : Nat) (N : Int) (ds rs : List PyData) (es : List (Str × Int)), σ = [some (.ref a), some (.ref p), some (.int (i : Nat)), some (.ref h), v4, some (.ref dd), v6, v7, v8, none, v10, v11, v12, v13, v14, none] ∧ N ≤ 110000 ∧ LwS Ps H p c h dd N ds rs es ∧ (i < 2 → ds.length ≤ 3 ∧ ∀ d ∈ ds, spanLe 5 d) ∧
  ∀ (v7 v8 v10 v11 v12 v13 v14 : Option V) (H' : Hp), PenC H' p c (N + 1500) → Tabs Ps H' → D.nx [some (.ref a), some (.ref p), some (.int (i : Nat)), some (.ref h), v4, some (.ref dd), v6, v7, v8, none, v10, v11, v12, v13, v14, none] H'
/-- a chain and the rows stand -/
def tU3 (Ps : List Addr) : TS := fun D σ H => ∃ (a p c h dd L R : Addr) (v4 v6 v10 v11 v12 v13 v14 : Option V) (i : Nat) (N : Int) (ds rs : List PyData) (es : List (Str × Int)) (s0 : Say) (l : List (Say × Int)) (dds : List Addr), σ = [some (.ref a), some (.ref p), some (.int (i : Nat)), some (.ref h), v4, some (.ref dd), v6, some (.ref L), some (.ref R), none, v10, v11, v12, v13, v14, none] ∧ N ≤ 120000 ∧ LwS Ps H p c h dd N ds rs es ∧ Tr (zn [p] H) (.ref L) (.list (chainP s0 l)) ∧ ChainK (ds.map nameOf) rs.length s0 l ∧ l.length ≤ 11 ∧ Rws (zn [p] H) R dds ds rs ∧
  ∀ (v10 v11 v12 v13 v14 : Option V) (H' : Hp), PenC H' p c (N + 1000) → Tabs Ps H' → D.nx [some (.ref a), some (.ref p), some (.int (i : Nat)), some (.ref h), v4, some (.ref dd), v6, some (.ref L), some (.ref R), none, v10, v11, v12, v13, v14, none] H'
/-- the chain that is asked stands -/
def tU4 (Ps : List Addr) : TS := fun D σ H => ∃ (a p c h dd L R S : Addr) (v2 v4 v6 v10 v12 v13 v14 : Option V) (N : Int) (ds rs : List PyData) (es : List (Str × Int)) (s0 : Say) (l : List (Say × Int)) (s1 : Say) (l1 : List (Say × Int)) (dds : List Addr), σ = [some (.ref a), some (.ref p), v2, some (.ref h), v4, some (.ref dd), v6, some (.ref L), some (.ref R), none, v10, some (.ref S), v12, v13, v14, none] ∧ LwS Ps H p c h dd N ds rs es ∧ Tr (zn [p] H) (.ref L) (.list (chainP s0 l)) ∧ Tr (zn [p] H) (.ref S) (.list (chainP s1 l1)) ∧ ChainK (ds.map nameOf) rs.length s1 l1 ∧ l1.length ≤ 12 ∧ Rws (zn [p] H) R dds ds rs ∧
  ∀ (v12 v13 v14 : Option V) (H' : Hp), LwS Ps H' p c h dd N ds rs es → Tr (zn [p] H') (.ref L) (.list (chainP s0 l)) → Rws (zn [p] H') R dds ds rs → D.nx [some (.ref a), some (.ref p), v2, some (.ref h), v4, some (.ref dd), v6, some (.ref L), some (.ref R), none, v10, some (.ref S), v12, v13, v14, none] H'
section
variable {P : Program} {w : World} {K : PySem.W.Frag} {mg : Str → Option Value} {base : Heap} {Ps : List Addr}
theorem front_say {ns : List Str} {n : Nat} {s0 : Say} {l : List (Say × Int)} (hc : ChainK ns n s0 l) : ∀ i, sayingD ns (sayP (frontK s0 l i)) = true
  | 0 => hc.s0
  | i + 1 => by
    show sayingD ns (sayP (match l[i]? with | some p => p.1 | none => s0)) = true
    cases h : l[i]? with
    | none => exact hc.s0
    | some p => exact (hc.ss p (List.mem_of_getElem? h)).1
theorem bool_rep (v : Bool) : (PyData.bool v).showable = true ∧ (PyData.bool v).depth ≤ 60 ∧ (PyData.shown (.bool v)).length ≤ sizeLine := ⟨rfl, by simp [PyData.depth], by cases v <;> decide +kernel⟩
set_option maxHeartbeats 8000000 in
theorem ok_law {f : Addr} {fd : FuncData} {cs : List (Addr × Addr)} (hcs : cs.map (·.2) = Ps) (F : Fun K "law" "law" sLaw f fd) (Z : Defs P w K mg base Ps) (B : Blt mg) : FnG P w K mg base 18 f fd ["_law_script"] (spLaw K cs) := by
  refine Fun.okG F scLaw (fun vs H Q E h => ?_) (fun cdv A outer s H vs Q E hgd hr h => ?_)
  · obtain ⟨a, ns, rfl, _⟩ := h
    rfl
  obtain ⟨a, ns, rfl, hS, hl, htab0, k⟩ := h
  have htab : Tabs Ps H := fun P hP => by
    rw [← hcs] at hP
    obtain ⟨q, hq, rfl⟩ := List.mem_map.mp hP
    exact htab0 q hq
  obtain ⟨fP, dP, GP, bP, kP, mP⟩ := Z.pen
  obtain ⟨fD, dD, GD, bD, kD, mD⟩ := Z.draw
  obtain ⟨fK, dK, GK, bK, kK, mK⟩ := Z.pick
  obtain ⟨fH, dH, GH, bH, kH, mH⟩ := Z.house
  obtain ⟨fM, dM, GM, bM, kM, mM⟩ := Z.small
  obtain ⟨fA, dA, GA, bA, kA, mA⟩ := Z.at_
  obtain ⟨fC, dC, GC, bC, kC, mC⟩ := Z.chain
  obtain ⟨fI, dI, GI, bI, kI, mI⟩ := Z.isc
  obtain ⟨fE, dE, GE, bE, kE, mE⟩ := Z.all_
  obtain ⟨fB, dB, GB, bB, kB, mB⟩ := Z.bent
  obtain ⟨fL, dL, GL, bL, kL, mL⟩ := Z.lic
  obtain ⟨fS, dS, GS, bS, kS, mS⟩ := Z.said
  have hr1 : Room 1 _ := hr.mono (by decide)
  have hr2 : Room 2 _ := hr.mono (by decide)
  have hr4 : Room 4 _ := hr.mono (by decide)
  have hr5 : Room 5 _ := hr.mono (by decide)
  have hr6 : Room 6 _ := hr.mono (by decide)
  have hr9 : Room 9 _ := hr.mono (by decide)
  have h100 : (A.deeper (PyProof.Rows.envOfC "law" (defScope sLaw) s.heap.objs.size f cdv)).units + 100 < cLine := by
    have := hr.un
    omega
  have hu0 : (A.deeper (PyProof.Rows.envOfC "law" (defScope sLaw) s.heap.objs.size f cdv)).units < cLine := by omega
  have hgd' : (A.deeper (PyProof.Rows.envOfC "law" (defScope sLaw) s.heap.objs.size f cdv)).guards = some [] := hgd
  refine ⟨_, pss_cons (ps_set (i := 1) scLaw.nd rfl (.inl rfl) (pe_call GP hr1 rfl mP kP bP .nil pass0 (pa_cons (pv 0) pa_nil))) <|
    pss_cons (ps_for PassesOwn.never rfl (pi_range1 (by rfl) B.range (pa_cons pe_int pa_nil)) (pg_name (i := 2) scLaw.nd rfl (Or.inl rfl))
      (pss_cons (ps_asg (pe_call GM hr6 rfl mM kM bM .nil pass0 (pa_cons (pv 1) pa_nil)) (pg_tup (by rfl) (pgs_cons (pg_name (i := 3) scLaw.nd rfl (.inr rfl)) <| pgs_cons (pg_name (i := 4) scLaw.nd rfl (.inl rfl)) pgs_nil))) <|
       pss_cons (ps_if (pt_cmpR op_gt (pv 2) pe_int (nomark _)) (pss_one (ps_asg (pe_call GH hr5 rfl mH kH bH .nil pass0 (pa_cons (pv 1) (pa_cons (pe_op op_add pe_int (pe_call GD hr1 rfl mD kD bD .nil pass0 (pa_cons (pv 1) (pa_cons pe_int pa_nil)))) (pa_cons (pe_op op_pow pe_int pe_int) (pa_cons pe_int pa_nil))))) (pg_tup (by rfl) (pgs_cons (pg_name (i := 3) scLaw.nd rfl (.inr rfl)) <| pgs_cons (pg_name (i := 4) scLaw.nd rfl (.inl rfl)) pgs_nil)))) pss_nil) <|
       pssW (u := tU1 Ps) (pss_cons (ps_set (i := 5) scLaw.nd rfl (.inl rfl) (pe_call GA hr1 rfl mA kA bA .nil pass0 (pa_cons (pv 3) (pa_cons (pv 4) pa_nil)))) <|
       pss_cons (ps_if (PW.pt (pw_and (pt_cmpR op_eq (pv 2) pe_int (nomark _)) (pw_and1 (pt_cmpR op_gt (pe_callB call_len_seq (by rfl) B.len PySem.boot_len (pa_cons (pv 4) pa_nil)) pe_int (nomark _)))))
         (pss_cons (ps_set (i := 6) scLaw.nd rfl (.inl rfl) (pe_call GK hr2 rfl mK kK bK .nil pass0 (pa_cons (pv 1) (pa_cons (pe_lst (pa_cons (pe_op op_pow pe_int pe_int) (pa_cons (pe_op op_sub pe_int (pe_op op_pow pe_int pe_int)) (pa_cons (pe_op op_sub (pe_op op_pow pe_int pe_int) pe_int) pa_nil)))) pa_nil))))
          (pss_one (ps_set (i := 3) scLaw.nd rfl (.inr rfl) (pe_tup (pa_cons (pe_ix ix_tup (pv 3) pe_int (fun _ _ => rfl)) (pa_cons (pe_op op_catA (pe_ix ix_tup (pv 3) pe_int (fun _ _ => rfl)) (pe_tup (pa_cons (pe_tup (pa_cons pe_str (pa_cons (pe_ix ix_tup (pe_ix ix_tup (pe_ix ix_tup (pv 3) pe_int (fun _ _ => rfl)) pe_int (fun _ _ => rfl)) pe_int (fun _ _ => rfl)) (pa_cons (pe_ix ix_tup (pe_ix ix_tup (pe_ix ix_tup (pv 3) pe_int (fun _ _ => rfl)) pe_int (fun _ _ => rfl)) pe_int (fun _ _ => rfl)) (pa_cons (pv 6) pa_nil))))) pa_nil))) pa_nil)))))) pss_nil) <|
       pssW (u := tU2 Ps) (pss_cons (ps_set (i := 7) scLaw.nd rfl (.inl rfl) (pe_call GC hr4 rfl mC kC bC .nil pass0 (pa_cons (pv 1) (pa_cons (pv 3) (pa_cons (pv 5) pa_nil))))) <|
       pss_cons (ps_if (pt_cmpR op_isnot_bl (pe_call GI hr9 rfl mI kI bI .nil pass0 (pa_cons (pv 3) (pa_cons (pv 7) pa_nil))) pe_bl (nomark _)) (pss_one (ps_ret pe_bl)) pss_nil) <|
       pss_cons (ps_set (i := 8) scLaw.nd rfl (.inl rfl) (pe_ifExp (pt_cmpR op_lt (pv 2) pe_int (nomark _)) (pe_lc (own := [("_law_one", 9)]) (g := gName 9) (by rfl) scLaw.nd (pi_list (pe_call GE hr4 rfl mE kE bE .nil pass0 (pa_cons (pv 3) pa_nil))) (blkOk_by (N := nLaw) (sc := defScope sLaw) (by decide +kernel)) (fun _ _ _ _ _ => pg_name (i := 9) scLaw.nd rfl (Or.inl rfl)) (fun _ _ _ _ _ => pts_nil) (fun _ _ _ _ _ => pe_call GA hr1 rfl mA kA bA .nil pass0 (pa_cons (pv 3) (pa_cons (pv 9) pa_nil)))) (pe_lst pa_nil))) <|
       pssW (u := tU3 Ps) (pss_one (ps_for PassesOwn.never rfl (pi_range1 (by rfl) B.range (pa_cons pe_int pa_nil)) (pg_name (i := 10) scLaw.nd rfl (Or.inl rfl))
         (pss_cons (ps_set (i := 11) scLaw.nd rfl (.inr rfl) (pe_ifExp (pt_cmpR op_eq (pv 10) pe_int (nomark _)) (pv 7) (pe_call GB hr4 rfl mB kB bB .nil pass0 (pa_cons (pv 1) (pa_cons (pv 3) (pa_cons (pv 5) (pa_cons (pv 7) pa_nil))))))) <|
          pssW (u := tU4 Ps) (pss_cons (ps_par (i := 12) (j := 13) (by rfl) scLaw.nd rfl rfl (by decide) rfl rfl (pa_cons (pe_callB (call_reprT hgd' h100) (by rfl) B.repr (by decide +kernel) (pa_cons (pv 11) pa_nil)) (pa_cons (pe_call GL hr4 rfl mL kL bL .nil pass0 (pa_cons (pv 3) (pa_cons (pv 11) pa_nil))) pa_nil)) (by rfl)) <|
          pss_cons (ps_if (PW.pt (pw_or (pt_cmpR op_ne (pe_callB (call_reprT hgd' h100) (by rfl) B.repr (by decide +kernel) (pa_cons (pe_call GI hr9 rfl mI kI bI .nil pass0 (pa_cons (pv 3) (pa_cons (pv 11) pa_nil))) pa_nil)) (pe_callB (call_reprT hgd' h100) (by rfl) B.repr (by decide +kernel) (pa_cons (pv 13) pa_nil)) (nomark _)) (pw_or1 (pt_cmpR op_ne (pe_callB (call_reprT hgd' h100) (by rfl) B.repr (by decide +kernel) (pa_cons (pv 11) pa_nil)) (pv 12) (nomark _))))) (pss_one (ps_ret pe_bl)) pss_nil) <|
          pss_cons (ps_setLc (i := 14) (own := [("_law_row", 15)]) (g := gName 15) (by rfl) scLaw.nd rfl rfl (sw_true rfl rfl rfl (by decide +kernel)) (pi_list (pv 8)) (blkOk_by (N := nLaw) (sc := defScope sLaw) (by decide +kernel)) (fun _ _ _ _ _ => pg_name (i := 15) scLaw.nd rfl (Or.inl rfl))
            (fun _ _ _ _ _ => pts_one (PW.pt (pw_and (pt_val (pe_call GS hr1 rfl mS kS bS .nil pass0 (pa_cons (pe_ix (r := rIxT K) ix_tup (pe_ix (r := rIxL K) ix_list (pv 11) pe_int (fun _ _ => rfl)) pe_int (fun _ _ => rfl)) (pa_cons (pv 15) pa_nil)))) (pw_and1 (pt_not (pt_val (pe_call GS hr1 rfl mS kS bS .nil pass0 (pa_cons (pe_ix (r := rIxT K) ix_tup (pe_ix (r := rIxL K) ix_list (pv 11) (pe_un un_neg pe_int) (fun _ _ => rfl)) pe_int (fun _ _ => rfl)) (pa_cons (pv 15) pa_nil))))))))) (fun _ _ _ _ _ => pv 15)) <|
          pss_one (ps_if (PW.pt (pw_and (pt_val (pv 13)) (pw_and1 (pt_cmpR (op_neNil hu0) (pv 14) (pe_lst pa_nil) (nomark _))))) (pss_one (ps_ret pe_bl)) pss_nil)) ?t4))) ?t3) ?t2) ?t1)) <|
    pss_one (ps_ret pe_bl), ?_⟩
  case t4 =>
    rintro D σ H ⟨a, p, c, h, dd, L, R, S, v2, v4, v6, v10, v12, v13, v14, N, ds, rs, es, s0, l, s1, l1, dds, rfl, L0, tL, tS, hc, hl, rw0, nx⟩
    obtain ⟨e1, e2, e3⟩ := chain_rep L0.hh.hg hc (by omega)
    have sl := sizeLine_eq
    refine ⟨_, rfl, _, _, rfl, tS.same zn_le, e1, e2, e3, _, rfl, _, rfl, h, S, ds, rs, s1, l1, rfl, L0.hh.same zn_le, tS.same zn_le, hc, by omega, fun H1 sa => ?_⟩
    refine ⟨_, _, rfl, ?_⟩
    have L1 := L0.same sa
    have tS1 := tS.same (zn_mono sa)
    have tL1 := tL.same (zn_mono sa)
    have rw1 := rw0.same (zn_mono sa)
    refine ⟨_, rfl, _, rfl, h, S, ds, rs, s1, l1, rfl, L1.hh.same zn_le, tS1.same zn_le, hc, by omega, L1.tb, fun H2 g => ?_⟩
    have L2' := L1.grs g
    have tS2 := tS1.zg L1.tb L1.pen g
    have tL2 := tL1.zg L1.tb L1.pen g
    have rw2 := rw1.grs (zn1_tabs L1.tb L1.pen) (zn1_grs L1.tb L1.pen g)
    obtain ⟨f1, f2, f3⟩ := bool_rep (chainB (endsOf ds) rs s1 l1)
    refine ⟨_, .bool _, rfl, .bl _, f1, f2, f3, _, rfl, _, .bool _, rfl, .bl _, f1, f2, f3, rfl, _, rfl, ?_⟩
    rw [decide_eq_true rfl]
    refine iteF ⟨_, rfl, _, _, rfl, tS2.same zn_le, e1, e2, e3, _, rfl, rfl, _, rfl, ?_⟩
    rw [decide_eq_true rfl]
    refine iteF ?_
    clear L0 L1 tS tS1 tL tL1 rw0 rw1 sa g
    have hR := (zn_some rw2.at_).2
    obtain ⟨xs, hS2, alS⟩ : ∃ xs, H2 S = some (.lst xs) ∧ TrAll (zn [p] H2) xs (chainP s1 l1) := by
      cases tS2 with
      | lst h a => exact ⟨_, (zn_some h).2, a⟩
    have cl : (chainP s1 l1).length = l1.length + 1 := by
      show (l1.map _).length + 1 = _
      rw [List.length_map]
    have xl := alS.length
    obtain ⟨b0, q0, u0, hx0, hb0, hq0⟩ := chain_front alS (i := 0) (Nat.zero_le _)
    obtain ⟨b1, q1, u1, hx1, hb1, hq1⟩ := chain_front alS (i := l1.length) (Nat.le_refl _)
    have ix0 : atI xs 0 = some (.ref b0) := atI_nat (xs := xs) (j := 0) hx0
    have ix1 : atI xs (-1) = some (.ref b1) := by rw [atI_m1 (n := l1.length) (by omega)]; exact hx1
    have hg := L2'.hh.hg
    refine ⟨_, rfl, R, rfl, ⟨_, SqL.of hR⟩, fun D' hD => lc_list (K := K) (a := R) (xs := dds.map V.ref) (fun j H3 => ∃ vs : List V, H3 D' = some (.lst vs) ∧ vs.length ≤ j ∧ (chainB (endsOf ds) rs s1 l1 = true → vs = []) ∧ Same H2 H3)
      ⟨[], upd_same, Nat.le_refl _, fun _ => rfl, sameNew hD _⟩ (fun j H3 _ ⟨_, _, _, _, s3⟩ => SqL.of (s3 _ _ hR)) ?_ ?_⟩
    · rintro j y H3 hy ⟨vs, g1, g2, g3, s3⟩
      rw [List.getElem?_map] at hy
      obtain ⟨d, hd, rfl⟩ := Option.map_eq_some_iff.mp hy
      have jl := (List.getElem?_eq_some_iff.mp hd).1
      have dl := rw2.len
      obtain ⟨is, hdz, isl, st⟩ := rw2.row d (List.mem_of_getElem? hd)
      have hd3 := s3 _ _ (zn_some hdz).2
      have eks : (atES ds is).map (·.1) = ds.map nameOf := by
        unfold atES
        exact List.map_fst_zip (by rw [List.length_map]; omega)
      refine ⟨rfl, _, rfl, S, _, _, _, rfl, rfl, SqL.of (s3 _ _ hS2), ix0, b0, _, _, _, rfl, rfl, SqT.of (s3 _ _ (zn_some hb0).2), (rfl : atI [V.ref q0, u0] 0 = some (.ref q0)), _, rfl, .ref q0, d, atES ds is, sayP s1, rfl, say_at (s3 _ _ (zn_some hq0).2), by rw [eks]; exact hc.s0, hd3, _, rfl, ?_⟩
      cases h1 : holdsS (lookE (atES ds is)) (sayP s1) with
      | false => exact iteF ⟨vs, g1, by omega, g3, s3⟩
      | true =>
        refine iteT ⟨_, rfl, _, rfl, S, _, _, _, rfl, rfl, SqL.of (s3 _ _ hS2), ix1, b1, _, _, _, rfl, rfl, SqT.of (s3 _ _ (zn_some hb1).2), (rfl : atI [V.ref q1, u1] 0 = some (.ref q1)), _, rfl, .ref q1, d, atES ds is, sayP (frontK s1 l1 l1.length), rfl, say_at (s3 _ _ (zn_some hq1).2), by rw [eks]; exact front_say hc _, hd3, _, rfl, ?_⟩
        cases h2 : holdsS (lookE (atES ds is)) (sayP (frontK s1 l1 l1.length)) with
        | true => exact iteF ⟨vs, g1, by omega, g3, s3⟩
        | false =>
          refine iteT ⟨_, rfl, vs, g1, by omega, vs ++ [V.ref d], upd_same, by rw [List.length_append]; show vs.length + 1 ≤ _; omega, fun hb => ?_, fun b o e => ?_⟩
          · have q := stand_said (L2'.hh.same zn_le) st hc hb h1
            rw [h2] at q
            cases q
          · rw [upd_ne (ne_of_none e hD)]
            exact s3 _ _ e
    · rintro H3 ⟨vs, g1, _, g3, s3⟩
      have L3 := L2'.same s3
      have tL3 := tL2.same (zn_mono s3)
      have rw3 := rw2.same (zn_mono s3)
      refine ⟨_, rfl, _, rfl, ?_⟩
      refine ite2 (fun cc => ?_) (fun _ => nx _ _ _ H3 L3 tL3 rw3)
      refine ⟨_, rfl, by show 0 ≤ sizeLine; omega, fun N' hN' => ?_⟩
      have sN := sameNew hN' (.lst [])
      refine ⟨D', N', vs, rfl, rfl, SqL.of (sN _ _ g1), SqL.of upd_same, _, rfl, ?_⟩
      rw [g3 cc]
      exact iteF (nx _ _ _ _ (L3.same sN) (tL3.same (zn_mono sN)) (rw3.same (zn_mono sN)))
  case t3 =>
    rintro D σ H ⟨a, p, c, h, dd, L, R, v4, v6, v10, v11, v12, v13, v14, i, N, ds, rs, es, s0, l, dds, rfl, hN, L0, tL, hc, hl, rw0, nx⟩
    refine ⟨6, rfl, by decide, by decide, for_range (n := 6) (fun j σ H2 => ∃ v10 v11 v12 v13 v14 : Option V, σ = [some (.ref a), some (.ref p), some (.int (i : Nat)), some (.ref h), v4, some (.ref dd), v6, some (.ref L), some (.ref R), none, v10, v11, v12, v13, v14, none] ∧ LwS Ps H2 p c h dd (N + 100 * j) ds rs es ∧ Tr (zn [p] H2) (.ref L) (.list (chainP s0 l)) ∧ Rws (zn [p] H2) R dds ds rs)
      ⟨_, _, _, _, _, rfl, L0.mono (by omega), tL, rw0⟩ ?_ ?_⟩
    · rintro j σ H2 hj ⟨w10, w11, w12, w13, w14, rfl, L2', tL2, rw2⟩
      refine ⟨_, rfl, rfl, _, rfl, ?_⟩
      refine ite2 (fun _ => ?_) (fun _ => ?_)
      · refine ⟨_, rfl, a, p, c, h, dd, L, R, L, _, _, _, _, _, _, _, N + 100 * j, ds, rs, es, s0, l, s0, l, dds, rfl, L2', tL2, tL2, hc, by omega, rw2, fun u12 u13 u14 H' L' t' r' => ⟨_, _, _, _, _, rfl, L'.mono (by omega), t', r'⟩⟩
      · refine ⟨_, rfl, _, rfl, _, rfl, _, rfl, p, c, h, dd, L, [p], _, 1000000000000000000, ds, rs, es, s0, l, rfl, by decide, by decide, L2'.pen, L2'.al, by omega, L2'.hh, L2'.sp, L2'.ad, tL2, hc, hl, fun S s1 l1 H3 pen3 sb3 tS hc1 hl1 => ?_⟩
        have z := zn_sb (X := [p]) sb3 List.mem_cons_self
        exact ⟨a, p, c, h, dd, L, R, S, _, _, _, _, _, _, _, _, ds, rs, es, s0, l, s1, l1, dds, rfl, L2'.sb sb3 pen3, tL2.same z, tS, hc1, hl1, rw2.same z, fun u12 u13 u14 H' L' t' r' => ⟨_, _, _, _, _, rfl, L'.mono (by omega), t', r'⟩⟩
    · rintro σ H2 ⟨w10, w11, w12, w13, w14, rfl, L2', tL2, rw2⟩
      exact nx _ _ _ _ _ H2 (L2'.pen.mono (by omega)) L2'.tb
  case t2 =>
    rintro D σ H ⟨a, p, c, h, dd, v4, v6, v7, v8, v10, v11, v12, v13, v14, i, N, ds, rs, es, rfl, hN, L0, sm, nx⟩
    have sl := sizeLine_eq
    refine ⟨_, rfl, _, rfl, _, rfl, p, c, h, dd, [p], _, 1000000000000000000, ds, rs, es, rfl, by decide, by decide, L0.pen, L0.al, by omega, L0.hh, L0.sp, L0.ad, fun L s0 l H1 pen1 sb1 tL hc hb hl => ?_⟩
    have L1 := L0.sb sb1 pen1
    refine ⟨_, rfl, _, rfl, h, L, ds, rs, s0, l, rfl, L1.hh.same zn_le, tL.same zn_le, hc, by omega, L1.tb, fun H2 g => ?_⟩
    have L2' := L1.grs g
    have tL2 := tL.zg L1.tb L1.pen g
    rw [hb]
    refine ⟨_, _, rfl, rfl, _, rfl, ?_⟩
    refine ite2 (fun cc => absurd cc (by decide)) (fun _ => ?_)
    clear L0 L1 tL g sb1 pen1
    refine ⟨_, rfl, _, _, rfl, rfl, _, rfl, ?_⟩
    refine ite2 (fun c2 => ?_) (fun _ => ?_)
    · have i2 : i < 2 := by
        have := of_decide_eq_true c2
        omega
      obtain ⟨d3, s5⟩ := sm i2
      refine ⟨_, rfl, h, ds, rs, rfl, L2'.hh.same zn_le, d3, s5, fun lt ts H3 s3 nl hlt tl rows => ?_⟩
      have L3 := L2'.same s3
      refine ⟨lt, rfl, ⟨_, SqL.of hlt⟩, fun D2 hD2 => lc_list (K := K) (a := lt) (xs := ts.map V.ref) (fun j H4 => ∃ dds : List Addr, H4 D2 = some (.lst (dds.map V.ref)) ∧ dds.length = j ∧ (∀ d ∈ dds, ∃ is : List Int, H4 d = some (.dK ((atES ds is).map kvOf)) ∧ is.length = ds.length ∧ standR ds rs is ∧ d ≠ p) ∧ Same H3 H4)
        ⟨[], upd_same, rfl, fun _ hu => by simp at hu, sameNew hD2 _⟩ (fun j H4 _ ⟨_, _, _, _, s4⟩ => SqL.of (s4 _ _ hlt)) ?_ ?_⟩
      · rintro j y H4 hy ⟨dds, g1, g2, g3, s4⟩
        rw [List.getElem?_map] at hy
        obtain ⟨t, ht, rfl⟩ := Option.map_eq_some_iff.mp hy
        have jl := (List.getElem?_eq_some_iff.mp ht).1
        obtain ⟨is, eis, isl, st⟩ := rows t (List.mem_of_getElem? ht)
        refine ⟨rfl, _, rfl, _, rfl, h, t, ds, rs, is, rfl, (L3.hh.same zn_le).same s4, s4 _ _ eis, isl, fun d' H5 s5' nd hd' => ?_⟩
        have g1' := s5' _ _ g1
        have d'p : d' ≠ p := (L3.pen.same s4).newp nd
        refine ⟨_, g1', by rw [List.length_map]; omega, dds ++ [d'], by rw [upd_same, List.map_append]; rfl, by rw [List.length_append, g2]; rfl, fun d hd => ?_, fun b o e => ?_⟩
        · rcases List.mem_append.mp hd with hd | hd
          · obtain ⟨js, q1, q2⟩ := g3 d hd
            exact ⟨js, by rw [upd_ne (ne_of (s5' _ _ q1) g1' (by intro z; cases z))]; exact s5' _ _ q1, q2⟩
          · rw [List.mem_singleton.mp hd]
            exact ⟨is, by rw [upd_ne (ne_of hd' g1' (by intro z; cases z))]; exact hd', isl, st, d'p⟩
        · rw [upd_ne (ne_of_none e hD2)]
          exact s5' _ _ (s4 _ _ e)
      · rintro H4 ⟨dds, g1, g2, g3, s4⟩
        rw [List.length_map] at g2
        have L4 := L3.same s4
        have D2p : D2 ≠ p := L3.pen.newp hD2
        refine ⟨a, p, c, h, dd, L, D2, _, _, _, _, _, _, _, i, N + 100, ds, rs, es, s0, l, dds, rfl, by omega, L4, (tL2.same (zn_mono s3)).same (zn_mono s4), hc, hl, ⟨by rw [zn_out (fun z => D2p (List.mem_singleton.mp z))]; exact g1, by omega, fun d hd => ?_⟩, fun u10 u11 u12 u13 u14 H' pen' tb' => nx _ _ _ _ _ _ _ H' (pen'.mono (by omega)) tb'⟩
        obtain ⟨is, q1, q2, q3, q4⟩ := g3 d hd
        exact ⟨is, by rw [zn_out (fun z => q4 (List.mem_singleton.mp z))]; exact q1, q2, q3⟩
    · refine ⟨by show 0 ≤ sizeLine; omega, fun R nR => ?_⟩
      have sR := sameNew nR (.lst [])
      have Rp : R ≠ p := L2'.pen.newp nR
      exact ⟨a, p, c, h, dd, L, R, _, _, _, _, _, _, _, i, N + 100, ds, rs, es, s0, l, [], rfl, by omega, L2'.same sR, tL2.same (zn_mono sR), hc, hl, ⟨by rw [zn_out (fun z => Rp (List.mem_singleton.mp z)), upd_same]; rfl, by decide, fun d hd => by simp at hd⟩, fun u10 u11 u12 u13 u14 H' pen' tb' => nx _ _ _ _ _ _ _ H' (pen'.mono (by omega)) tb'⟩
  case t1 =>
    rintro D σ H ⟨a, p, c, h, y, v5, v6, v7, v8, v10, v11, v12, v13, v14, i, N, ds, rs, is, rfl, hi, hN, pen, tb, hhz, hy, il, ib, sp, sm, sr, rl, nx⟩
    have sl := sizeLine_eq
    have fg := farG
    have gg := greatG
    have hg := hhz.hg
    refine ⟨_, rfl, _, rfl, h, y, ds, rs, is, rfl, hhz.same zn_le, hy, il, fun dd H1 s1 nd hd => ?_⟩
    have eks : (atES ds is).map (·.1) = ds.map nameOf := by
      unfold atES
      exact List.map_fst_zip (by rw [List.length_map]; omega)
    have ad : AtD H1 dd ds (atES ds is) := ⟨hd, eks, fun e he => by
      obtain ⟨e1, e2⟩ := e
      exact ib e2 (List.of_mem_zip he).2⟩
    have L1 : LwS Ps H1 p c h dd N ds rs (atES ds is) := ⟨pen.same s1, tb.same s1, hhz.same (zn_mono s1), ad, sp⟩
    have hy1 := s1 _ _ hy
    have Y : tU2 Ps D [some (.ref a), some (.ref p), some (.int (i : Nat)), some (.ref h), some (.ref y), some (.ref dd), v6, v7, v8, none, v10, v11, v12, v13, v14, none] H1 := ⟨a, p, c, h, dd, _, _, _, _, _, _, _, _, _, i, N, ds, rs, _, rfl, by omega, L1, sm, fun u7 u8 u10 u11 u12 u13 u14 H' pen' tb' => nx _ _ _ _ _ _ _ _ _ _ _ H' (pen'.mono (by omega)) tb'⟩
    refine ⟨_, rfl, rfl, _, rfl, ?_⟩
    refine ite2 (fun c1 => ?_) (fun _ => Y)
    refine ⟨_, rfl, y, _, rfl, .inr (SqT.of hy1), _, _, rfl, rfl, _, rfl, ?_⟩
    refine ite2 (fun c2 => ?_) (fun _ => Y)
    -- a rule with a great number, put behind
    have i3 : i = 3 := by
      have q := V.int.inj (of_decide_eq_true c1)
      omega
    have dl2 : 2 ≤ ds.length := by
      have q := of_decide_eq_true c2
      rw [List.length_map] at q
      omega
    have rl12 := rl (by omega)
    refine ⟨_, rfl, _, _, rfl, rfl, ⟨by decide, by decide, by decide⟩, _, _, rfl, rfl, ⟨by decide, by decide, by decide⟩, _, _, rfl, rfl, _, _, rfl, rfl, ⟨by decide, by decide, by decide⟩, _, _, rfl, rfl, by show 3 ≤ sizeLine; omega, fun e he => ?_⟩
    rw [ints20]
    have se := sameNew he (.lst [V.int greatS, V.int (0 - greatS), V.int (greatS - 5)])
    refine .inl ⟨p, c, e, _, _, rfl, L1.pen.same se, by omega, L1.pen.newp he, .inl upd_same, by simp, by simp, fun x H2 hx pen2 sb2 => ?_⟩
    obtain ⟨far, rfl, far1, far2, far3⟩ : ∃ far : Int, x = .int far ∧ -greatS ≤ far ∧ far ≤ greatS ∧ (4 * farS < far ∨ far < -(4 * farS)) := by
      simp only [List.mem_cons, List.not_mem_nil, or_false] at hx
      rcases hx with rfl | rfl | rfl
      · exact ⟨greatS, rfl, by omega, by omega, by omega⟩
      · exact ⟨0 - greatS, rfl, by omega, by omega, by omega⟩
      · exact ⟨greatS - 5, rfl, by omega, by omega, by omega⟩
    have sb12 : Sb p H1 H2 := (Sb.same se).trans sb2
    have L2' := L1.sb sb12 pen2
    clear hx se he sb2 Y
    obtain ⟨dt, rt, xs, ys, hh2, hdt, hrt, dtX, rtX, alx, aly⟩ : ∃ dt rt xs ys, H2 h = some (.tup [.ref dt, .ref rt]) ∧ H2 dt = some (.tup xs) ∧ H2 rt = some (.tup ys) ∧ dt ∉ [p] ∧ rt ∉ [p] ∧ TrAll (zn [p] H2) xs ds ∧ TrAll (zn [p] H2) ys rs := by
      have th := L2'.hh.tr
      cases th with
      | @tup _ hs _ e al' =>
      match hs, al' with
      | [_, _], .cons (.tup (a := dt) hd ad') (.cons (.tup (a := rt) hr' ar') .nil) =>
        exact ⟨dt, rt, _, _, (zn_some e).2, (zn_some hd).2, (zn_some hr').2, (zn_some hd).1, (zn_some hr').1, ad', ar'⟩
    have xl := alx.length
    have yl := aly.length
    have nth : ∀ j, j < ds.length → ∃ (b : Addr) (z : Str) (zs : List V) (d : PyData), xs[j]? = some (.ref b) ∧ H2 b = some (.tup (V.str z :: zs)) ∧ ds[j]? = some d ∧ nameOf d = z := fun j hj => by
      have hx : xs[j]? = some xs[j] := List.getElem?_eq_getElem (by omega)
      obtain ⟨d, hd, td⟩ := alx.get hx
      obtain ⟨b, nm, way, lo, hi', up, dn, eb, hb0, _, _, _, _, ed⟩ := dial_tup td (hg.dials d (List.mem_of_getElem? hd))
      exact ⟨b, nm, _, d, by rw [hx, eb], zn_le _ _ hb0, hd, by rw [ed]; rfl⟩
    obtain ⟨b0, z0, zs0, d0, hx0, hb0, hd0, en0⟩ := nth 0 (by omega)
    obtain ⟨b1, z1, zs1, d1, hx1, hb1, hd1, en1⟩ := nth 1 (by omega)
    have m0 : z0 ∈ ds.map nameOf := List.mem_map.mpr ⟨d0, List.mem_of_getElem? hd0, en0⟩
    have m1 : z1 ∈ ds.map nameOf := List.mem_map.mpr ⟨d1, List.mem_of_getElem? hd1, en1⟩
    have ne : z0 ≠ z1 := by
      have q := nd_at hg.nd hd0 hd1 (by decide)
      rw [en0, en1] at q
      exact q
    have ix0 : atI xs 0 = some (.ref b0) := atI_nat (xs := xs) (j := 0) hx0
    have ix1 : atI xs 1 = some (.ref b1) := atI_nat (xs := xs) (j := 1) hx1
    have big := big_house hg sr (by omega) m0 m1 ne far1 far2 far3
    have j0 : atI [V.ref dt, V.ref rt] 0 = some (.ref dt) := rfl
    have j1 : atI [V.ref dt, V.ref rt] 1 = some (.ref rt) := rfl
    have k0 : atI (V.str z0 :: zs0) 0 = some (.str z0) := atI_nat (xs := V.str z0 :: zs0) (j := 0) rfl
    have k1 : atI (V.str z1 :: zs1) 0 = some (.str z1) := atI_nat (xs := V.str z1 :: zs1) (j := 0) rfl
    refine ⟨_, rfl, h, _, _, _, rfl, rfl, SqT.of hh2, j0, _, rfl, h, _, _, _, rfl, rfl, SqT.of hh2, j1, ?_⟩
    refine ⟨_, rfl, h, _, _, _, rfl, rfl, SqT.of hh2, j0, dt, _, _, _, rfl, rfl, SqT.of hdt, ix0, b0, _, _, _, rfl, rfl, SqT.of hb0, k0, _, rfl, h, _, _, _, rfl, rfl, SqT.of hh2, j0, dt, _, _, _, rfl, rfl, SqT.of hdt, ix1, b1, _, _, _, rfl, rfl, SqT.of hb1, k1, _, rfl, by show 4 ≤ sizeLine; omega, fun t nt => ?_⟩
    have st := sameNew nt (.tup [V.str "off", V.str z0, V.str z1, V.int far])
    refine ⟨by show 1 ≤ sizeLine; omega, fun t1 nt1 => ?_⟩
    have st1 := sameNew nt1 (.tup [V.ref t])
    have L3 := L2'.same st
    have L4 := L3.same st1
    have tp := L2'.al.out nt
    have t1p := L3.al.out nt1
    have sA := st.trans st1
    have et := st1 _ _ (upd_same (H := H2) (a := t) (o := .tup [V.str "off", V.str z0, V.str z1, V.int far]))
    have et1 : L2.upd (L2.upd H2 t (.tup [V.str "off", V.str z0, V.str z1, V.int far])) t1 (.tup [V.ref t]) t1 = some (.tup [V.ref t]) := upd_same
    generalize L2.upd (L2.upd H2 t (.tup [V.str "off", V.str z0, V.str z1, V.int far])) t1 (.tup [V.ref t]) = H4 at L4 sA et et1
    have fin : ∀ (u : Addr) (H5 : Hp), Same H4 H5 → H5 u = some (.tup (ys ++ [V.ref t])) → u ∉ [p] → ∀ h', H5 h' = none → tU2 Ps D [some (.ref a), some (.ref p), some (.int (i : Nat)), some (.ref h'), some (.ref y), some (.ref dd), some (.int far), v7, v8, none, v10, v11, v12, v13, v14, none] (L2.upd H5 h' (.tup [V.ref dt, V.ref u])) := fun u H5 s5 hu up h' nh => by
      have sh := sameNew nh (.tup [V.ref dt, V.ref u])
      have L5 := (L4.same s5).same sh
      have hX := (L4.same s5).al.out nh
      have sB := sA.trans (s5.trans sh)
      have z := zn_mono (X := [p]) sB
      refine ⟨a, p, c, h', dd, _, _, _, _, _, _, _, _, _, i, N + 1, ds, rs ++ [bigR z0 z1 far], _, rfl, by omega, ⟨L5.pen, L5.tb, ⟨.tup (by rw [zn_out hX, upd_same]) (.cons (.tup (z _ _ (by rw [zn_out dtX]; exact hdt)) (alx.same z)) (.cons (.tup (by rw [zn_out up]; exact sh _ _ hu) (.snoc (aly.same z) (.tup (by rw [zn_out tp]; exact sh _ _ (s5 _ _ et)) (.cons (.str _) (.cons (.str _) (.cons (.str _) (.cons (.int _) .nil))))))) .nil)), big⟩, L5.ad, L5.sp⟩, sm, fun u7 u8 u10 u11 u12 u13 u14 H' pen' tb' => nx _ _ _ _ _ _ _ _ _ _ _ H' (pen'.mono (by omega)) tb'⟩
    refine ⟨rt, t1, ys, [V.ref t], rfl, rfl, SqT.of (sA _ _ hrt), SqT.of et1, by show ys.length + 1 ≤ sizeLine; omega, fun z => ⟨by show 2 ≤ sizeLine; omega, fun h' nh => fin t1 H4 (Same.refl _) (by rw [z]; exact et1) t1p h' nh⟩, (fun _ z => nomatch z), fun _ _ u nu => ⟨by show 2 ≤ sizeLine; omega, fun h' nh => fin u _ (sameNew nu _) upd_same (L4.al.out nu) h' nh⟩⟩
  have fg := farG
  have e18 : (10 : Int) ^ (18 : Int).toNat = 1000000000000000000 := ints10
  refine ⟨_, rfl, a, ns, rfl, hS, hl, fun p c H1 pen1 s1 => ?_⟩
  refine ⟨4, rfl, by decide, by decide, for_range (n := 4) (fun i σ H2 => ∃ v2 v3 v4 v5 v6 v7 v8 v10 v11 v12 v13 v14 : Option V, σ = [some (.ref a), some (.ref p), v2, v3, v4, v5, v6, v7, v8, none, v10, v11, v12, v13, v14, none] ∧ PenC H2 p c (10000 * i) ∧ Tabs Ps H2)
    ⟨none, none, none, none, none, none, none, none, none, none, none, none, rfl, pen1.mono (by omega), htab.same s1⟩ ?_ ?_⟩
  rotate_left
  · rintro σ H2 ⟨v2, v3, v4, v5, v6, v7, v8, v10, v11, v12, v13, v14, rfl, pen2, tb2⟩
    exact k H2
  rintro i σ H2 hi ⟨v2, v3, v4, v5, v6, v7, v8, v10, v11, v12, v13, v14, rfl, pen2, tb2⟩
  rw [Int.zero_add]
  refine ⟨_, rfl, p, c, [p], _, rfl, pen2, pen2.al, by omega, fun t h y ds rs is Ha penA sbA ht tp th hy yX il ib hg sp5 d3 sr => ?_⟩
  have tbA := tb2.sb pen2 sbA
  refine ⟨t, _, rfl, SqT.of ht, rfl, _, _, rfl, _, _, rfl, rfl, ?_⟩
  refine ⟨_, rfl, _, _, rfl, rfl, _, rfl, ?_⟩
  refine ite2 (fun c1 => ?_) (fun c1 => ?_)
  · refine ⟨_, rfl, _, rfl, p, c, _, _, rfl, penA, by omega, by decide, by decide, fun w1 Hb a1 a2 penB sbB => ?_⟩
    have tbB := tbA.sb penA sbB
    refine ⟨_, _, rfl, rfl, _, _, rfl, rfl, ⟨by decide, by decide, by decide⟩, ?_⟩
    refine ⟨p, c, [p], _, 10 ^ (18 : Int).toNat, 12, (1 + w1).toNat, by show [V.ref p, V.int (1 + w1), V.int (10 ^ (18 : Int).toNat), V.int 12] = _; rw [show (((1 + w1).toNat : Nat) : Int) = 1 + w1 by omega], by rw [e18]; decide, by rw [e18]; decide, penB, penB.al, by omega, by omega, by omega, by decide, by decide, fun t' h' y' ds' rs' is' Hc penC sbC ht' tp' th' hy' yX' il' ib' hg' sp' isp' dm' sr' rl' => ?_⟩
    refine ⟨t', _, rfl, SqT.of ht', rfl, _, _, rfl, _, _, rfl, rfl, ?_⟩
    rw [e18] at sp'
    refine ⟨a, p, c, h', y', _, _, _, _, _, _, _, _, _, i, 10000 * i + 3010 + 1 + 3000, ds', rs', is', rfl, by omega, by omega, penC, tbB.sb penB sbC, ⟨th', hg'⟩, hy', il', ib', sp', fun q => ?_, sr', fun _ => by omega, fun u3 u4 u5 u6 u7 u8 u10 u11 u12 u13 u14 H' pen' tb' => ⟨_, _, _, _, _, _, _, _, _, _, _, _, rfl, pen'.mono (by omega), tb'⟩⟩
    have := of_decide_eq_true c1
    omega
  · have i1 : i ≤ 1 := by
      by_cases q : i ≤ 1
      · exact q
      · exact absurd (decide_eq_true (show (1 : Int) < (i : Int) by omega)) c1
    refine ⟨a, p, c, h, y, _, _, _, _, _, _, _, _, _, i, 10000 * i + 3010, ds, rs, is, rfl, by omega, by omega, penA, tbA, ⟨th, hg⟩, hy, il, ib, fun d hd => ?_, fun _ => ⟨d3, sp5⟩, sr, fun q => by omega, fun u3 u4 u5 u6 u7 u8 u10 u11 u12 u13 u14 H' pen' tb' => ⟨_, _, _, _, _, _, _, _, _, _, _, _, rfl, pen'.mono (by omega), tb'⟩⟩
    have q := sp5 d hd
    obtain ⟨nm, way, lo, hi', up, dn, rfl, _⟩ := hg.dials d hd
    have q : hi' - lo ≤ 5 := q
    show hi' - lo ≤ 1000000000000000000
    omega
end
end Pk
namespace Pk
open PySem L2
/-- a tuple of texts of the module's own top -/
def strsB (K : PySem.W.Frag) (a : Addr) (zs : List Str) : Bool := match K.lookup a with
  | some ⟨.type "tuple", _, .seq its _, _⟩ => decide (its.size ≤ 1000) && decide (its.toList.map absV = zs.map fun z => some (V.str z))
  | _ => false
theorem vals_abs : ∀ {zs : List Str} {us : List Value}, (us.map absV = zs.map fun z => some (V.str z)) → Vals (zs.map V.str) us
  | [], [], _ => .nil
  | [], _ :: _, h => by simp at h
  | _ :: _, [], h => by simp at h
  | z :: zs, u :: us, h => by
    rw [List.map_cons, List.map_cons, List.cons.injEq] at h
    refine .cons ?_ (vals_abs h.2)
    have h1 := h.1
    cases u with
    | str x t =>
      cases h1
      exact ⟨t, rfl⟩
    | _ => cases h1
theorem strsB_ok {K : PySem.W.Frag} {a : Addr} {zs : List Str} (h : strsB K a zs = true) (H : Hp) : SqT K H a (zs.map V.str) := by
  unfold strsB at h
  split at h
  · rename_i dd its n sl e
    rw [Bool.and_eq_true, decide_eq_true_eq, decide_eq_true_eq] at h
    exact .inr ⟨_, its, n, e, rfl, rfl, small h.1, vals_abs h.2⟩
  · cases h
/-- a def's table of code objects, read -/
theorem tab_in {K : PySem.W.Frag} {x : Str} {f c P : Addr} {oc oc2 : Value} {od od2 : Option Addr} {sl sl2 : Array (Option Value)} {fd : FuncData} {vs : Array Value} (a : PySem.W.nsIn K mainGlobals x = some (some (.ref f)))
    (l : K.lookup f = some ⟨oc, od, .func fd, sl⟩) (hc : fd.code = .ref c) (lc : K.lookup c = some ⟨oc2, od2, .fields vs, sl2⟩) (hv : vs[11]? = some (.ref P)) : PySem.W.tabIn K x = some (c, P) := by
  unfold PySem.W.tabIn
  rw [a]
  simp only
  rw [l]
  simp only
  rw [hc]
  simp only
  rw [lc]
  simp only
  rw [hv]
/-- all that the walk asks of the class -/
def clsB (K : PySem.W.Frag) (CL fI : Addr) : Bool :=
  (PySem.W.plainGet K CL Str.empty && (PySem.W.hasDictIn K CL && (PySem.W.plainOver K CL && decide (PySem.W.findIn K (.ref CL) "__setattr__" = some (some (.builtin "object.__setattr__")))))) &&
  ((decide (PySem.W.findIn K (.ref CL) "names" = some none) && (decide (PySem.W.findIn K (.ref CL) "dials" = some none) && (decide (PySem.W.findIn K (.ref CL) "rules" = some none) && decide (PySem.W.findIn K (.ref CL) "speaking" = some none)))) &&
  (PySem.W.makesIn K CL && (PySem.W.isFn K (.ref fI) && PySem.W.keepIn K (.ref CL))))
set_option maxHeartbeats 4000000 in
theorem all_mk {l : PySem.W.OpenLaw} {q : Program} {w : World} {K : PySem.W.Frag} {h : Heap} {mg : Str → Option Value} {fa cL xIsName PIsName xTogether PTogether qW qS qR : Addr} (X : K.In h) (G : h.Ns mainGlobals mg) (hfa : mg "law" = some (.ref fa))
    {fIsName fTogether fWhole fTupOf fPrice fIsDial fIsSaying fIsRule fForm fFDial fFRule fFault fNamesIn fCheckH fFitsNone fDenies fGives fGBO fGiven fLeads fBegins fIsChain fPen fDraw fPick fNames fDials fLNums fSayL fLSaid fLRule fHouseL fLHolds fLAt fLStands fLAll fSmall fLDenies fLGives fLBrought fLLinks fLIC fLNext fLChain fLBent fLaw fInit : Addr} {odIsName anIsName odTogether anTogether odWhole anWhole odTupOf anTupOf odPrice anPrice odIsDial anIsDial odIsSaying anIsSaying odIsRule anIsRule odForm anForm odFDial anFDial odFRule anFRule odFault anFault odNamesIn anNamesIn odCheckH anCheckH odFitsNone anFitsNone odDenies anDenies odGives anGives odGBO anGBO odGiven anGiven odLeads anLeads odBegins anBegins odIsChain anIsChain odPen anPen odDraw anDraw odPick anPick odNames anNames odDials anDials odLNums anLNums odSayL anSayL odLSaid anLSaid odLRule anLRule odHouseL anHouseL odLHolds anLHolds odLAt anLAt odLStands anLStands odLAll anLAll odSmall anSmall odLDenies anLDenies odLGives anLGives odLBrought anLBrought odLLinks anLLinks odLIC anLIC odLNext anLNext odLChain anLChain odLBent anLBent odLaw anLaw odInit anInit : Option Addr} {slIsName slTogether slWhole slTupOf slPrice slIsDial slIsSaying slIsRule slForm slFDial slFRule slFault slNamesIn slCheckH slFitsNone slDenies slGives slGBO slGiven slLeads slBegins slIsChain slPen slDraw slPick slNames slDials slLNums slSayL slLSaid slLRule slHouseL slLHolds slLAt slLStands slLAll slSmall slLDenies slLGives slLBrought slLLinks slLIC slLNext slLChain slLBent slLaw slInit : Array (Option Value)} {t_far t_great t_dear t_long t_dials t_rules t_lc t_by : Tok}
    {ocIsName kVIsName dcIsName pmIsName ctIsName ocTogether kVTogether dcTogether pmTogether ctTogether ocWhole kVWhole dcWhole pmWhole ctWhole ocTupOf kVTupOf dcTupOf pmTupOf ctTupOf ocPrice kVPrice dcPrice pmPrice ctPrice ocIsDial kVIsDial dcIsDial pmIsDial ctIsDial ocIsSaying kVIsSaying dcIsSaying pmIsSaying ctIsSaying ocIsRule kVIsRule dcIsRule pmIsRule ctIsRule ocForm kVForm dcForm pmForm ctForm ocFDial kVFDial dcFDial pmFDial ctFDial ocFRule kVFRule dcFRule pmFRule ctFRule ocFault kVFault dcFault pmFault ctFault ocNamesIn kVNamesIn dcNamesIn pmNamesIn ctNamesIn ocCheckH kVCheckH dcCheckH pmCheckH ctCheckH ocFitsNone kVFitsNone dcFitsNone pmFitsNone ctFitsNone ocDenies kVDenies dcDenies pmDenies ctDenies ocGives kVGives dcGives pmGives ctGives ocGBO kVGBO dcGBO pmGBO ctGBO ocGiven kVGiven dcGiven pmGiven ctGiven ocLeads kVLeads dcLeads pmLeads ctLeads ocBegins kVBegins dcBegins pmBegins ctBegins ocIsChain kVIsChain dcIsChain pmIsChain ctIsChain ocPen kVPen dcPen pmPen ctPen ocDraw kVDraw dcDraw pmDraw ctDraw ocPick kVPick dcPick pmPick ctPick ocNames kVNames dcNames pmNames ctNames ocDials kVDials dcDials pmDials ctDials ocLNums kVLNums dcLNums pmLNums ctLNums ocSayL kVSayL dcSayL pmSayL ctSayL ocLSaid kVLSaid dcLSaid pmLSaid ctLSaid ocLRule kVLRule dcLRule pmLRule ctLRule ocHouseL kVHouseL dcHouseL pmHouseL ctHouseL ocLHolds kVLHolds dcLHolds pmLHolds ctLHolds ocLAt kVLAt dcLAt pmLAt ctLAt ocLStands kVLStands dcLStands pmLStands ctLStands ocLAll kVLAll dcLAll pmLAll ctLAll ocSmall kVSmall dcSmall pmSmall ctSmall ocLDenies kVLDenies dcLDenies pmLDenies ctLDenies ocLGives kVLGives dcLGives pmLGives ctLGives ocLBrought kVLBrought dcLBrought pmLBrought ctLBrought ocLLinks kVLLinks dcLLinks pmLLinks ctLLinks ocLIC kVLIC dcLIC pmLIC ctLIC ocLNext kVLNext dcLNext pmLNext ctLNext ocLChain kVLChain dcLChain pmLChain ctLChain ocLBent kVLBent dcLBent pmLBent ctLBent ocLaw kVLaw dcLaw pmLaw ctLaw ocInit kVInit dcInit pmInit ctInit cdWhole cdTupOf cdPrice cdIsDial cdIsSaying cdIsRule cdForm cdFDial cdFRule cdFault cdNamesIn cdCheckH cdFitsNone cdDenies cdGives cdGBO cdGiven cdLeads cdBegins cdIsChain cdPen cdDraw cdPick cdNames cdDials cdLNums cdSayL cdLSaid cdLRule cdHouseL cdLHolds cdLAt cdLStands cdLAll cdSmall cdLDenies cdLGives cdLBrought cdLLinks cdLIC cdLNext cdLChain cdLBent cdLaw cdInit : Value}
    (gL : PySem.W.nsIn K mainGlobals "Layout" = some (some (.ref cL)))
    (aIsName : PySem.W.nsIn K mainGlobals "is_name" = some (some (.ref fIsName)))
    (lIsName : K.lookup fIsName = some ⟨ocIsName, odIsName, .func (PySem.W.fnOf "is_name" "is_name" (defArgs sIsName) (defBody sIsName) (defScope sIsName) .none kVIsName dcIsName pmIsName anIsName (.ref xIsName) ctIsName), slIsName⟩)
    (cIsName : PySem.W.codeIn K (.ref xIsName) "is_name" = true)
    (kIsName : PySem.W.keepIn K (.ref fIsName) = true)
    (aTogether : PySem.W.nsIn K mainGlobals "holds_together" = some (some (.ref fTogether)))
    (lTogether : K.lookup fTogether = some ⟨ocTogether, odTogether, .func (PySem.W.fnOf "holds_together" "holds_together" (defArgs sTogether) (defBody sTogether) (defScope sTogether) .none kVTogether dcTogether pmTogether anTogether (.ref xTogether) ctTogether), slTogether⟩)
    (cTogether : PySem.W.codeIn K (.ref xTogether) "holds_together" = true)
    (kTogether : PySem.W.keepIn K (.ref fTogether) = true)
    (aWhole : PySem.W.nsIn K mainGlobals "is_whole" = some (some (.ref fWhole)))
    (lWhole : K.lookup fWhole = some ⟨ocWhole, odWhole, .func (PySem.W.fnOf "is_whole" "is_whole" (defArgs sWhole) (defBody sWhole) (defScope sWhole) .none kVWhole dcWhole pmWhole anWhole cdWhole ctWhole), slWhole⟩)
    (cWhole : PySem.W.codeIn K cdWhole "is_whole" = true)
    (kWhole : PySem.W.keepIn K (.ref fWhole) = true)
    (aTupOf : PySem.W.nsIn K mainGlobals "is_tuple_of" = some (some (.ref fTupOf)))
    (lTupOf : K.lookup fTupOf = some ⟨ocTupOf, odTupOf, .func (PySem.W.fnOf "is_tuple_of" "is_tuple_of" (defArgs sTupOf) (defBody sTupOf) (defScope sTupOf) .none kVTupOf dcTupOf pmTupOf anTupOf cdTupOf ctTupOf), slTupOf⟩)
    (cTupOf : PySem.W.codeIn K cdTupOf "is_tuple_of" = true)
    (kTupOf : PySem.W.keepIn K (.ref fTupOf) = true)
    (aPrice : PySem.W.nsIn K mainGlobals "is_price" = some (some (.ref fPrice)))
    (lPrice : K.lookup fPrice = some ⟨ocPrice, odPrice, .func (PySem.W.fnOf "is_price" "is_price" (defArgs sPrice) (defBody sPrice) (defScope sPrice) .none kVPrice dcPrice pmPrice anPrice cdPrice ctPrice), slPrice⟩)
    (cPrice : PySem.W.codeIn K cdPrice "is_price" = true)
    (kPrice : PySem.W.keepIn K (.ref fPrice) = true)
    (aIsDial : PySem.W.nsIn K mainGlobals "is_dial" = some (some (.ref fIsDial)))
    (lIsDial : K.lookup fIsDial = some ⟨ocIsDial, odIsDial, .func (PySem.W.fnOf "is_dial" "is_dial" (defArgs sIsDial) (defBody sIsDial) (defScope sIsDial) .none kVIsDial dcIsDial pmIsDial anIsDial cdIsDial ctIsDial), slIsDial⟩)
    (cIsDial : PySem.W.codeIn K cdIsDial "is_dial" = true)
    (kIsDial : PySem.W.keepIn K (.ref fIsDial) = true)
    (aIsSaying : PySem.W.nsIn K mainGlobals "is_saying" = some (some (.ref fIsSaying)))
    (lIsSaying : K.lookup fIsSaying = some ⟨ocIsSaying, odIsSaying, .func (PySem.W.fnOf "is_saying" "is_saying" (defArgs sIsSaying) (defBody sIsSaying) (defScope sIsSaying) .none kVIsSaying dcIsSaying pmIsSaying anIsSaying cdIsSaying ctIsSaying), slIsSaying⟩)
    (cIsSaying : PySem.W.codeIn K cdIsSaying "is_saying" = true)
    (kIsSaying : PySem.W.keepIn K (.ref fIsSaying) = true)
    (aIsRule : PySem.W.nsIn K mainGlobals "is_rule" = some (some (.ref fIsRule)))
    (lIsRule : K.lookup fIsRule = some ⟨ocIsRule, odIsRule, .func (PySem.W.fnOf "is_rule" "is_rule" (defArgs sIsRule) (defBody sIsRule) (defScope sIsRule) .none kVIsRule dcIsRule pmIsRule anIsRule cdIsRule ctIsRule), slIsRule⟩)
    (cIsRule : PySem.W.codeIn K cdIsRule "is_rule" = true)
    (kIsRule : PySem.W.keepIn K (.ref fIsRule) = true)
    (aForm : PySem.W.nsIn K mainGlobals "has_house_form" = some (some (.ref fForm)))
    (lForm : K.lookup fForm = some ⟨ocForm, odForm, .func (PySem.W.fnOf "has_house_form" "has_house_form" (defArgs sForm) (defBody sForm) (defScope sForm) .none kVForm dcForm pmForm anForm cdForm ctForm), slForm⟩)
    (cForm : PySem.W.codeIn K cdForm "has_house_form" = true)
    (kForm : PySem.W.keepIn K (.ref fForm) = true)
    (aFDial : PySem.W.nsIn K mainGlobals "faulty_dial" = some (some (.ref fFDial)))
    (lFDial : K.lookup fFDial = some ⟨ocFDial, odFDial, .func (PySem.W.fnOf "faulty_dial" "faulty_dial" (defArgs sFDial) (defBody sFDial) (defScope sFDial) .none kVFDial dcFDial pmFDial anFDial cdFDial ctFDial), slFDial⟩)
    (cFDial : PySem.W.codeIn K cdFDial "faulty_dial" = true)
    (kFDial : PySem.W.keepIn K (.ref fFDial) = true)
    (aFRule : PySem.W.nsIn K mainGlobals "faulty_rule" = some (some (.ref fFRule)))
    (lFRule : K.lookup fFRule = some ⟨ocFRule, odFRule, .func (PySem.W.fnOf "faulty_rule" "faulty_rule" (defArgs sFRule) (defBody sFRule) (defScope sFRule) .none kVFRule dcFRule pmFRule anFRule cdFRule ctFRule), slFRule⟩)
    (cFRule : PySem.W.codeIn K cdFRule "faulty_rule" = true)
    (kFRule : PySem.W.keepIn K (.ref fFRule) = true)
    (aFault : PySem.W.nsIn K mainGlobals "fault_of" = some (some (.ref fFault)))
    (lFault : K.lookup fFault = some ⟨ocFault, odFault, .func (PySem.W.fnOf "fault_of" "fault_of" (defArgs sFault) (defBody sFault) (defScope sFault) .none kVFault dcFault pmFault anFault cdFault ctFault), slFault⟩)
    (cFault : PySem.W.codeIn K cdFault "fault_of" = true)
    (kFault : PySem.W.keepIn K (.ref fFault) = true)
    (aNamesIn : PySem.W.nsIn K mainGlobals "names_in" = some (some (.ref fNamesIn)))
    (lNamesIn : K.lookup fNamesIn = some ⟨ocNamesIn, odNamesIn, .func (PySem.W.fnOf "names_in" "names_in" (defArgs sNamesIn) (defBody sNamesIn) (defScope sNamesIn) .none kVNamesIn dcNamesIn pmNamesIn anNamesIn cdNamesIn ctNamesIn), slNamesIn⟩)
    (cNamesIn : PySem.W.codeIn K cdNamesIn "names_in" = true)
    (kNamesIn : PySem.W.keepIn K (.ref fNamesIn) = true)
    (aCheckH : PySem.W.nsIn K mainGlobals "check_house" = some (some (.ref fCheckH)))
    (lCheckH : K.lookup fCheckH = some ⟨ocCheckH, odCheckH, .func (PySem.W.fnOf "check_house" "check_house" (defArgs sCheckH) (defBody sCheckH) (defScope sCheckH) .none kVCheckH dcCheckH pmCheckH anCheckH cdCheckH ctCheckH), slCheckH⟩)
    (cCheckH : PySem.W.codeIn K cdCheckH "check_house" = true)
    (kCheckH : PySem.W.keepIn K (.ref fCheckH) = true)
    (aFitsNone : PySem.W.nsIn K mainGlobals "fits_none" = some (some (.ref fFitsNone)))
    (lFitsNone : K.lookup fFitsNone = some ⟨ocFitsNone, odFitsNone, .func (PySem.W.fnOf "fits_none" "fits_none" (defArgs sFitsNone) (defBody sFitsNone) (defScope sFitsNone) .none kVFitsNone dcFitsNone pmFitsNone anFitsNone cdFitsNone ctFitsNone), slFitsNone⟩)
    (cFitsNone : PySem.W.codeIn K cdFitsNone "fits_none" = true)
    (kFitsNone : PySem.W.keepIn K (.ref fFitsNone) = true)
    (aDenies : PySem.W.nsIn K mainGlobals "denies" = some (some (.ref fDenies)))
    (lDenies : K.lookup fDenies = some ⟨ocDenies, odDenies, .func (PySem.W.fnOf "denies" "denies" (defArgs sDenies) (defBody sDenies) (defScope sDenies) .none kVDenies dcDenies pmDenies anDenies cdDenies ctDenies), slDenies⟩)
    (cDenies : PySem.W.codeIn K cdDenies "denies" = true)
    (kDenies : PySem.W.keepIn K (.ref fDenies) = true)
    (aGives : PySem.W.nsIn K mainGlobals "gives" = some (some (.ref fGives)))
    (lGives : K.lookup fGives = some ⟨ocGives, odGives, .func (PySem.W.fnOf "gives" "gives" (defArgs sGives) (defBody sGives) (defScope sGives) .none kVGives dcGives pmGives anGives cdGives ctGives), slGives⟩)
    (cGives : PySem.W.codeIn K cdGives "gives" = true)
    (kGives : PySem.W.keepIn K (.ref fGives) = true)
    (aGBO : PySem.W.nsIn K mainGlobals "given_by_one" = some (some (.ref fGBO)))
    (lGBO : K.lookup fGBO = some ⟨ocGBO, odGBO, .func (PySem.W.fnOf "given_by_one" "given_by_one" (defArgs sGivenByOne) (defBody sGivenByOne) (defScope sGivenByOne) .none kVGBO dcGBO pmGBO anGBO cdGBO ctGBO), slGBO⟩)
    (cGBO : PySem.W.codeIn K cdGBO "given_by_one" = true)
    (kGBO : PySem.W.keepIn K (.ref fGBO) = true)
    (aGiven : PySem.W.nsIn K mainGlobals "given" = some (some (.ref fGiven)))
    (lGiven : K.lookup fGiven = some ⟨ocGiven, odGiven, .func (PySem.W.fnOf "given" "given" (defArgs sGiven) (defBody sGiven) (defScope sGiven) .none kVGiven dcGiven pmGiven anGiven cdGiven ctGiven), slGiven⟩)
    (cGiven : PySem.W.codeIn K cdGiven "given" = true)
    (kGiven : PySem.W.keepIn K (.ref fGiven) = true)
    (aLeads : PySem.W.nsIn K mainGlobals "leads_on" = some (some (.ref fLeads)))
    (lLeads : K.lookup fLeads = some ⟨ocLeads, odLeads, .func (PySem.W.fnOf "leads_on" "leads_on" (defArgs sLeads) (defBody sLeads) (defScope sLeads) .none kVLeads dcLeads pmLeads anLeads cdLeads ctLeads), slLeads⟩)
    (cLeads : PySem.W.codeIn K cdLeads "leads_on" = true)
    (kLeads : PySem.W.keepIn K (.ref fLeads) = true)
    (aBegins : PySem.W.nsIn K mainGlobals "begins" = some (some (.ref fBegins)))
    (lBegins : K.lookup fBegins = some ⟨ocBegins, odBegins, .func (PySem.W.fnOf "begins" "begins" (defArgs sBegins) (defBody sBegins) (defScope sBegins) .none kVBegins dcBegins pmBegins anBegins cdBegins ctBegins), slBegins⟩)
    (cBegins : PySem.W.codeIn K cdBegins "begins" = true)
    (kBegins : PySem.W.keepIn K (.ref fBegins) = true)
    (aIsChain : PySem.W.nsIn K mainGlobals "is_chain" = some (some (.ref fIsChain)))
    (lIsChain : K.lookup fIsChain = some ⟨ocIsChain, odIsChain, .func (PySem.W.fnOf "is_chain" "is_chain" (defArgs sIsChain) (defBody sIsChain) (defScope sIsChain) .none kVIsChain dcIsChain pmIsChain anIsChain cdIsChain ctIsChain), slIsChain⟩)
    (cIsChain : PySem.W.codeIn K cdIsChain "is_chain" = true)
    (kIsChain : PySem.W.keepIn K (.ref fIsChain) = true)
    (aPen : PySem.W.nsIn K mainGlobals "_law_pen" = some (some (.ref fPen)))
    (lPen : K.lookup fPen = some ⟨ocPen, odPen, .func (PySem.W.fnOf "_law_pen" "_law_pen" (defArgs sPen) (defBody sPen) (defScope sPen) .none kVPen dcPen pmPen anPen cdPen ctPen), slPen⟩)
    (cPen : PySem.W.codeIn K cdPen "_law_pen" = true)
    (kPen : PySem.W.keepIn K (.ref fPen) = true)
    (aDraw : PySem.W.nsIn K mainGlobals "_law_draw" = some (some (.ref fDraw)))
    (lDraw : K.lookup fDraw = some ⟨ocDraw, odDraw, .func (PySem.W.fnOf "_law_draw" "_law_draw" (defArgs sDraw) (defBody sDraw) (defScope sDraw) .none kVDraw dcDraw pmDraw anDraw cdDraw ctDraw), slDraw⟩)
    (cDraw : PySem.W.codeIn K cdDraw "_law_draw" = true)
    (kDraw : PySem.W.keepIn K (.ref fDraw) = true)
    (aPick : PySem.W.nsIn K mainGlobals "_law_pick" = some (some (.ref fPick)))
    (lPick : K.lookup fPick = some ⟨ocPick, odPick, .func (PySem.W.fnOf "_law_pick" "_law_pick" (defArgs sPick) (defBody sPick) (defScope sPick) .none kVPick dcPick pmPick anPick cdPick ctPick), slPick⟩)
    (cPick : PySem.W.codeIn K cdPick "_law_pick" = true)
    (kPick : PySem.W.keepIn K (.ref fPick) = true)
    (aNames : PySem.W.nsIn K mainGlobals "_law_names" = some (some (.ref fNames)))
    (lNames : K.lookup fNames = some ⟨ocNames, odNames, .func (PySem.W.fnOf "_law_names" "_law_names" (defArgs sNames) (defBody sNames) (defScope sNames) .none kVNames dcNames pmNames anNames cdNames ctNames), slNames⟩)
    (cNames : PySem.W.codeIn K cdNames "_law_names" = true)
    (kNames : PySem.W.keepIn K (.ref fNames) = true)
    (aDials : PySem.W.nsIn K mainGlobals "_law_dials" = some (some (.ref fDials)))
    (lDials : K.lookup fDials = some ⟨ocDials, odDials, .func (PySem.W.fnOf "_law_dials" "_law_dials" (defArgs sDials) (defBody sDials) (defScope sDials) .none kVDials dcDials pmDials anDials cdDials ctDials), slDials⟩)
    (cDials : PySem.W.codeIn K cdDials "_law_dials" = true)
    (kDials : PySem.W.keepIn K (.ref fDials) = true)
    (aLNums : PySem.W.nsIn K mainGlobals "_law_numbers" = some (some (.ref fLNums)))
    (lLNums : K.lookup fLNums = some ⟨ocLNums, odLNums, .func (PySem.W.fnOf "_law_numbers" "_law_numbers" (defArgs sLNums) (defBody sLNums) (defScope sLNums) .none kVLNums dcLNums pmLNums anLNums cdLNums ctLNums), slLNums⟩)
    (cLNums : PySem.W.codeIn K cdLNums "_law_numbers" = true)
    (kLNums : PySem.W.keepIn K (.ref fLNums) = true)
    (aSayL : PySem.W.nsIn K mainGlobals "_law_saying" = some (some (.ref fSayL)))
    (lSayL : K.lookup fSayL = some ⟨ocSayL, odSayL, .func (PySem.W.fnOf "_law_saying" "_law_saying" (defArgs sSay) (defBody sSay) (defScope sSay) .none kVSayL dcSayL pmSayL anSayL cdSayL ctSayL), slSayL⟩)
    (cSayL : PySem.W.codeIn K cdSayL "_law_saying" = true)
    (kSayL : PySem.W.keepIn K (.ref fSayL) = true)
    (aLSaid : PySem.W.nsIn K mainGlobals "_law_said" = some (some (.ref fLSaid)))
    (lLSaid : K.lookup fLSaid = some ⟨ocLSaid, odLSaid, .func (PySem.W.fnOf "_law_said" "_law_said" (defArgs sLSaid) (defBody sLSaid) (defScope sLSaid) .none kVLSaid dcLSaid pmLSaid anLSaid cdLSaid ctLSaid), slLSaid⟩)
    (cLSaid : PySem.W.codeIn K cdLSaid "_law_said" = true)
    (kLSaid : PySem.W.keepIn K (.ref fLSaid) = true)
    (aLRule : PySem.W.nsIn K mainGlobals "_law_rule" = some (some (.ref fLRule)))
    (lLRule : K.lookup fLRule = some ⟨ocLRule, odLRule, .func (PySem.W.fnOf "_law_rule" "_law_rule" (defArgs sLRule) (defBody sLRule) (defScope sLRule) .none kVLRule dcLRule pmLRule anLRule cdLRule ctLRule), slLRule⟩)
    (cLRule : PySem.W.codeIn K cdLRule "_law_rule" = true)
    (kLRule : PySem.W.keepIn K (.ref fLRule) = true)
    (aHouseL : PySem.W.nsIn K mainGlobals "_law_house" = some (some (.ref fHouseL)))
    (lHouseL : K.lookup fHouseL = some ⟨ocHouseL, odHouseL, .func (PySem.W.fnOf "_law_house" "_law_house" (defArgs sHouseL) (defBody sHouseL) (defScope sHouseL) .none kVHouseL dcHouseL pmHouseL anHouseL cdHouseL ctHouseL), slHouseL⟩)
    (cHouseL : PySem.W.codeIn K cdHouseL "_law_house" = true)
    (kHouseL : PySem.W.keepIn K (.ref fHouseL) = true)
    (aLHolds : PySem.W.nsIn K mainGlobals "_law_holds" = some (some (.ref fLHolds)))
    (lLHolds : K.lookup fLHolds = some ⟨ocLHolds, odLHolds, .func (PySem.W.fnOf "_law_holds" "_law_holds" (defArgs sLHolds) (defBody sLHolds) (defScope sLHolds) .none kVLHolds dcLHolds pmLHolds anLHolds cdLHolds ctLHolds), slLHolds⟩)
    (cLHolds : PySem.W.codeIn K cdLHolds "_law_holds" = true)
    (kLHolds : PySem.W.keepIn K (.ref fLHolds) = true)
    (aLAt : PySem.W.nsIn K mainGlobals "_law_at" = some (some (.ref fLAt)))
    (lLAt : K.lookup fLAt = some ⟨ocLAt, odLAt, .func (PySem.W.fnOf "_law_at" "_law_at" (defArgs sLAt) (defBody sLAt) (defScope sLAt) .none kVLAt dcLAt pmLAt anLAt cdLAt ctLAt), slLAt⟩)
    (cLAt : PySem.W.codeIn K cdLAt "_law_at" = true)
    (kLAt : PySem.W.keepIn K (.ref fLAt) = true)
    (aLStands : PySem.W.nsIn K mainGlobals "_law_stands" = some (some (.ref fLStands)))
    (lLStands : K.lookup fLStands = some ⟨ocLStands, odLStands, .func (PySem.W.fnOf "_law_stands" "_law_stands" (defArgs sLStands) (defBody sLStands) (defScope sLStands) .none kVLStands dcLStands pmLStands anLStands cdLStands ctLStands), slLStands⟩)
    (cLStands : PySem.W.codeIn K cdLStands "_law_stands" = true)
    (kLStands : PySem.W.keepIn K (.ref fLStands) = true)
    (aLAll : PySem.W.nsIn K mainGlobals "_law_all" = some (some (.ref fLAll)))
    (lLAll : K.lookup fLAll = some ⟨ocLAll, odLAll, .func (PySem.W.fnOf "_law_all" "_law_all" (defArgs sLAll) (defBody sLAll) (defScope sLAll) .none kVLAll dcLAll pmLAll anLAll cdLAll ctLAll), slLAll⟩)
    (cLAll : PySem.W.codeIn K cdLAll "_law_all" = true)
    (kLAll : PySem.W.keepIn K (.ref fLAll) = true)
    (aSmall : PySem.W.nsIn K mainGlobals "_law_small" = some (some (.ref fSmall)))
    (lSmall : K.lookup fSmall = some ⟨ocSmall, odSmall, .func (PySem.W.fnOf "_law_small" "_law_small" (defArgs sSmall) (defBody sSmall) (defScope sSmall) .none kVSmall dcSmall pmSmall anSmall cdSmall ctSmall), slSmall⟩)
    (cSmall : PySem.W.codeIn K cdSmall "_law_small" = true)
    (kSmall : PySem.W.keepIn K (.ref fSmall) = true)
    (aLDenies : PySem.W.nsIn K mainGlobals "_law_denies" = some (some (.ref fLDenies)))
    (lLDenies : K.lookup fLDenies = some ⟨ocLDenies, odLDenies, .func (PySem.W.fnOf "_law_denies" "_law_denies" (defArgs sLDenies) (defBody sLDenies) (defScope sLDenies) .none kVLDenies dcLDenies pmLDenies anLDenies cdLDenies ctLDenies), slLDenies⟩)
    (cLDenies : PySem.W.codeIn K cdLDenies "_law_denies" = true)
    (kLDenies : PySem.W.keepIn K (.ref fLDenies) = true)
    (aLGives : PySem.W.nsIn K mainGlobals "_law_gives" = some (some (.ref fLGives)))
    (lLGives : K.lookup fLGives = some ⟨ocLGives, odLGives, .func (PySem.W.fnOf "_law_gives" "_law_gives" (defArgs sLGives) (defBody sLGives) (defScope sLGives) .none kVLGives dcLGives pmLGives anLGives cdLGives ctLGives), slLGives⟩)
    (cLGives : PySem.W.codeIn K cdLGives "_law_gives" = true)
    (kLGives : PySem.W.keepIn K (.ref fLGives) = true)
    (aLBrought : PySem.W.nsIn K mainGlobals "_law_brought" = some (some (.ref fLBrought)))
    (lLBrought : K.lookup fLBrought = some ⟨ocLBrought, odLBrought, .func (PySem.W.fnOf "_law_brought" "_law_brought" (defArgs sLBrought) (defBody sLBrought) (defScope sLBrought) .none kVLBrought dcLBrought pmLBrought anLBrought cdLBrought ctLBrought), slLBrought⟩)
    (cLBrought : PySem.W.codeIn K cdLBrought "_law_brought" = true)
    (kLBrought : PySem.W.keepIn K (.ref fLBrought) = true)
    (aLLinks : PySem.W.nsIn K mainGlobals "_law_links" = some (some (.ref fLLinks)))
    (lLLinks : K.lookup fLLinks = some ⟨ocLLinks, odLLinks, .func (PySem.W.fnOf "_law_links" "_law_links" (defArgs sLLinks) (defBody sLLinks) (defScope sLLinks) .none kVLLinks dcLLinks pmLLinks anLLinks cdLLinks ctLLinks), slLLinks⟩)
    (cLLinks : PySem.W.codeIn K cdLLinks "_law_links" = true)
    (kLLinks : PySem.W.keepIn K (.ref fLLinks) = true)
    (aLIC : PySem.W.nsIn K mainGlobals "_law_is_chain" = some (some (.ref fLIC)))
    (lLIC : K.lookup fLIC = some ⟨ocLIC, odLIC, .func (PySem.W.fnOf "_law_is_chain" "_law_is_chain" (defArgs sLIsChain) (defBody sLIsChain) (defScope sLIsChain) .none kVLIC dcLIC pmLIC anLIC cdLIC ctLIC), slLIC⟩)
    (cLIC : PySem.W.codeIn K cdLIC "_law_is_chain" = true)
    (kLIC : PySem.W.keepIn K (.ref fLIC) = true)
    (aLNext : PySem.W.nsIn K mainGlobals "_law_next" = some (some (.ref fLNext)))
    (lLNext : K.lookup fLNext = some ⟨ocLNext, odLNext, .func (PySem.W.fnOf "_law_next" "_law_next" (defArgs sLNext) (defBody sLNext) (defScope sLNext) .none kVLNext dcLNext pmLNext anLNext cdLNext ctLNext), slLNext⟩)
    (cLNext : PySem.W.codeIn K cdLNext "_law_next" = true)
    (kLNext : PySem.W.keepIn K (.ref fLNext) = true)
    (aLChain : PySem.W.nsIn K mainGlobals "_law_chain" = some (some (.ref fLChain)))
    (lLChain : K.lookup fLChain = some ⟨ocLChain, odLChain, .func (PySem.W.fnOf "_law_chain" "_law_chain" (defArgs sLChain) (defBody sLChain) (defScope sLChain) .none kVLChain dcLChain pmLChain anLChain cdLChain ctLChain), slLChain⟩)
    (cLChain : PySem.W.codeIn K cdLChain "_law_chain" = true)
    (kLChain : PySem.W.keepIn K (.ref fLChain) = true)
    (aLBent : PySem.W.nsIn K mainGlobals "_law_bent" = some (some (.ref fLBent)))
    (lLBent : K.lookup fLBent = some ⟨ocLBent, odLBent, .func (PySem.W.fnOf "_law_bent" "_law_bent" (defArgs sLBent) (defBody sLBent) (defScope sLBent) .none kVLBent dcLBent pmLBent anLBent cdLBent ctLBent), slLBent⟩)
    (cLBent : PySem.W.codeIn K cdLBent "_law_bent" = true)
    (kLBent : PySem.W.keepIn K (.ref fLBent) = true)
    (aLaw : PySem.W.nsIn K mainGlobals "law" = some (some (.ref fLaw)))
    (lLaw : K.lookup fLaw = some ⟨ocLaw, odLaw, .func (PySem.W.fnOf "law" "law" (defArgs sLaw) (defBody sLaw) (defScope sLaw) .none kVLaw dcLaw pmLaw anLaw cdLaw ctLaw), slLaw⟩)
    (cLaw : PySem.W.codeIn K cdLaw "law" = true)
    (kLaw : PySem.W.keepIn K (.ref fLaw) = true)
    (aInit : PySem.W.findIn K (.ref cL) "__init__" = some (some (.ref fInit)))
    (lInit : K.lookup fInit = some ⟨ocInit, odInit, .func (PySem.W.fnOf "__init__" "Layout.__init__" (defArgs sInit) (defBody sInit) (defScope sInit) .none kVInit dcInit pmInit anInit cdInit ctInit), slInit⟩)
    (cInit : PySem.W.codeIn K cdInit "Layout.__init__" = true)
    (kInit : PySem.W.keepIn K (.ref fInit) = true)
    (y_far : PySem.W.nsIn K mainGlobals "FARTHEST" = some (some (.int 1000000000000000000 t_far)))
    (y_great : PySem.W.nsIn K mainGlobals "GREATEST" = some (some (.int 100000000000000000000 t_great)))
    (y_dear : PySem.W.nsIn K mainGlobals "DEAREST" = some (some (.int 1000000 t_dear)))
    (y_long : PySem.W.nsIn K mainGlobals "LONGEST_NAME" = some (some (.int 8 t_long)))
    (y_dials : PySem.W.nsIn K mainGlobals "MOST_DIALS" = some (some (.int 12 t_dials)))
    (y_rules : PySem.W.nsIn K mainGlobals "MOST_RULES" = some (some (.int 40 t_rules)))
    (y_lc : PySem.W.nsIn K mainGlobals "LONGEST_CHAIN" = some (some (.int 2000 t_lc)))
    (y_by : PySem.W.nsIn K mainGlobals "BY_ITSELF" = some (some (.int (-1) t_by)))
    (y_W : PySem.W.nsIn K mainGlobals "WAYS" = some (some (.ref qW)))
    (y_S : PySem.W.nsIn K mainGlobals "SORTS" = some (some (.ref qS)))
    (y_R : PySem.W.nsIn K mainGlobals "PAIR_RULES" = some (some (.ref qR)))
    (z_isinstance : PySem.W.nsIn K mainGlobals "isinstance" = some none)
    (z_bool : PySem.W.nsIn K mainGlobals "bool" = some none)
    (z_int : PySem.W.nsIn K mainGlobals "int" = some none)
    (z_str : PySem.W.nsIn K mainGlobals "str" = some none)
    (z_tuple : PySem.W.nsIn K mainGlobals "tuple" = some none)
    (z_list : PySem.W.nsIn K mainGlobals "list" = some none)
    (z_len : PySem.W.nsIn K mainGlobals "len" = some none)
    (z_all : PySem.W.nsIn K mainGlobals "all" = some none)
    (z_enumerate : PySem.W.nsIn K mainGlobals "enumerate" = some none)
    (z_abs : PySem.W.nsIn K mainGlobals "abs" = some none)
    (z_dict : PySem.W.nsIn K mainGlobals "dict" = some none)
    (z_range : PySem.W.nsIn K mainGlobals "range" = some none)
    (z_repr : PySem.W.nsIn K mainGlobals "repr" = some none)
    (z_sorted : PySem.W.nsIn K mainGlobals "sorted" = some none)
    (z_min : PySem.W.nsIn K mainGlobals "min" = some none)
    (z_max : PySem.W.nsIn K mainGlobals "max" = some none)
    (z_sum : PySem.W.nsIn K mainGlobals "sum" = some none)
    (z_any : PySem.W.nsIn K mainGlobals "any" = some none)
    (hTIsName : PySem.W.tabIn K "is_name" = some (xIsName, PIsName))
    (hPIsName : K.lookup PIsName = none)
    (hrIsName : ((PyProof.Rows.recsOf q).find? (fun e => e.name == ("is_name" : Str))).isSome = true)
    (hTTogether : PySem.W.tabIn K "holds_together" = some (xTogether, PTogether))
    (hPTogether : K.lookup PTogether = none)
    (hrTogether : ((PyProof.Rows.recsOf q).find? (fun e => e.name == ("holds_together" : Str))).isSome = true)
    (hchk : (strsB K qW ways3 && (strsB K qS sorts2 && strsB K qR pairs3)) = true)
    (hcls : clsB K cL fInit = true)
    : ∃ (fd : FuncData) (cs : List (Addr × Addr)), (∀ p ∈ cs, ∃ (y : Str) (dr : PySem.DefRec), (PyProof.Rows.recsOf q).find? (fun e => e.name == y) = some dr ∧ PySem.W.tabIn K y = some p ∧ K.lookup p.2 = none) ∧
      (∀ (s : Shared) (u : Value), BindsTo s fd ⟨[u], []⟩ [("_law_script", u)]) ∧ ∀ bs : Heap, K.In bs → bs.Ns mainGlobals mg → (∀ p ∈ cs, GxR.TabB bs mg p.1 p.2) → FnG l.prog w K mg bs 18 fa fd ["_law_script"] (spLaw K cs) := by
  have e := hfa.symm.trans (PySem.W.mg_of X G aLaw)
  cases e
  obtain ⟨dr1, hdr1⟩ := Option.isSome_iff_exists.mp hrIsName
  obtain ⟨dr2, hdr2⟩ := Option.isSome_iff_exists.mp hrTogether
  rw [Bool.and_eq_true, Bool.and_eq_true] at hchk
  simp only [clsB, Bool.and_eq_true, decide_eq_true_eq] at hcls
  obtain ⟨⟨u1, u2, u3, u4⟩, ⟨u5, u6, u7, u8⟩, u9, u10, u12⟩ := hcls
  have BH : BltH mg := ⟨PySem.W.mg_none_of X G z_isinstance, PySem.W.mg_none_of X G z_bool, PySem.W.mg_none_of X G z_int, PySem.W.mg_none_of X G z_str, PySem.W.mg_none_of X G z_tuple, PySem.W.mg_none_of X G z_list, PySem.W.mg_none_of X G z_len, PySem.W.mg_none_of X G z_all, PySem.W.mg_none_of X G z_enumerate⟩
  have B : Blt mg := ⟨PySem.W.mg_none_of X G z_len, PySem.W.mg_none_of X G z_abs, PySem.W.mg_none_of X G z_list, PySem.W.mg_none_of X G z_tuple, PySem.W.mg_none_of X G z_dict, PySem.W.mg_none_of X G z_isinstance, PySem.W.mg_none_of X G z_range, PySem.W.mg_none_of X G z_repr, PySem.W.mg_none_of X G z_sorted, PySem.W.mg_none_of X G z_min, PySem.W.mg_none_of X G z_max, PySem.W.mg_none_of X G z_int, PySem.W.mg_none_of X G z_str⟩
  have C : Cons K mg qW qS qR := ⟨⟨_, PySem.W.mg_of X G y_far⟩, ⟨_, PySem.W.mg_of X G y_great⟩, ⟨_, PySem.W.mg_of X G y_dear⟩, ⟨_, PySem.W.mg_of X G y_long⟩, ⟨_, PySem.W.mg_of X G y_dials⟩, ⟨_, PySem.W.mg_of X G y_rules⟩, PySem.W.mg_of X G y_W, PySem.W.mg_of X G y_S, PySem.W.mg_of X G y_R, strsB_ok hchk.1, strsB_ok hchk.2.1, strsB_ok hchk.2.2⟩
  have T : LayTxt K mg cL := ⟨⟨u1, u2, u3, u4⟩, u5, u6, u7, u8, PySem.W.mg_of X G gL⟩
  have M : Mk K cL fInit := ⟨u9, aInit, u10, u12⟩
  have FIsName := fun_mk (st := sIsName) lIsName cIsName kIsName
  have mIsName := PySem.W.mg_of X G aIsName
  have bIsName := FIsName.binds (ps := ["thing"]) fun _ _ _ _ _ _ us hl => match us, hl with | [_], _ => rfl
  have FTogether := fun_mk (st := sTogether) lTogether cTogether kTogether
  have mTogether := PySem.W.mg_of X G aTogether
  have bTogether := FTogether.binds (ps := ["layout", "thing"]) fun _ _ _ _ _ _ us hl => match us, hl with | [_, _], _ => rfl
  have FWhole := fun_mk (st := sWhole) lWhole cWhole kWhole
  have mWhole := PySem.W.mg_of X G aWhole
  have bWhole := FWhole.binds (ps := ["thing", "low", "high"]) fun _ _ _ _ _ _ us hl => match us, hl with | [_, _, _], _ => rfl
  have FTupOf := fun_mk (st := sTupOf) lTupOf cTupOf kTupOf
  have mTupOf := PySem.W.mg_of X G aTupOf
  have bTupOf := FTupOf.binds (ps := ["thing", "least", "most"]) fun _ _ _ _ _ _ us hl => match us, hl with | [_, _, _], _ => rfl
  have FPrice := fun_mk (st := sPrice) lPrice cPrice kPrice
  have mPrice := PySem.W.mg_of X G aPrice
  have bPrice := FPrice.binds (ps := ["thing"]) fun _ _ _ _ _ _ us hl => match us, hl with | [_], _ => rfl
  have FIsDial := fun_mk (st := sIsDial) lIsDial cIsDial kIsDial
  have mIsDial := PySem.W.mg_of X G aIsDial
  have bIsDial := FIsDial.binds (ps := ["thing"]) fun _ _ _ _ _ _ us hl => match us, hl with | [_], _ => rfl
  have FIsSaying := fun_mk (st := sIsSaying) lIsSaying cIsSaying kIsSaying
  have mIsSaying := PySem.W.mg_of X G aIsSaying
  have bIsSaying := FIsSaying.binds (ps := ["names", "thing"]) fun _ _ _ _ _ _ us hl => match us, hl with | [_, _], _ => rfl
  have FIsRule := fun_mk (st := sIsRule) lIsRule cIsRule kIsRule
  have mIsRule := PySem.W.mg_of X G aIsRule
  have bIsRule := FIsRule.binds (ps := ["names", "thing"]) fun _ _ _ _ _ _ us hl => match us, hl with | [_, _], _ => rfl
  have FForm := fun_mk (st := sForm) lForm cForm kForm
  have mForm := PySem.W.mg_of X G aForm
  have bForm := FForm.binds (ps := ["thing"]) fun _ _ _ _ _ _ us hl => match us, hl with | [_], _ => rfl
  have FFDial := fun_mk (st := sFDial) lFDial cFDial kFDial
  have mFDial := PySem.W.mg_of X G aFDial
  have bFDial := FFDial.binds (ps := ["dials"]) fun _ _ _ _ _ _ us hl => match us, hl with | [_], _ => rfl
  have FFRule := fun_mk (st := sFRule) lFRule cFRule kFRule
  have mFRule := PySem.W.mg_of X G aFRule
  have bFRule := FFRule.binds (ps := ["names", "rules"]) fun _ _ _ _ _ _ us hl => match us, hl with | [_, _], _ => rfl
  have FFault := fun_mk (st := sFault) lFault cFault kFault
  have mFault := PySem.W.mg_of X G aFault
  have bFault := FFault.binds (ps := ["thing"]) fun _ _ _ _ _ _ us hl => match us, hl with | [_], _ => rfl
  have FNamesIn := fun_mk (st := sNamesIn) lNamesIn cNamesIn kNamesIn
  have mNamesIn := PySem.W.mg_of X G aNamesIn
  have bNamesIn := FNamesIn.binds (ps := ["rule"]) fun _ _ _ _ _ _ us hl => match us, hl with | [_], _ => rfl
  have FCheckH := fun_mk (st := sCheckH) lCheckH cCheckH kCheckH
  have mCheckH := PySem.W.mg_of X G aCheckH
  have bCheckH := FCheckH.binds (ps := ["house"]) fun _ _ _ _ _ _ us hl => match us, hl with | [_], _ => rfl
  have FFitsNone := fun_mk (st := sFitsNone) lFitsNone cFitsNone kFitsNone
  have mFitsNone := PySem.W.mg_of X G aFitsNone
  have bFitsNone := FFitsNone.binds (ps := ["layout", "saying"]) fun _ _ _ _ _ _ us hl => match us, hl with | [_, _], _ => rfl
  have FDenies := fun_mk (st := sDenies) lDenies cDenies kDenies
  have mDenies := PySem.W.mg_of X G aDenies
  have bDenies := FDenies.binds (ps := ["layout", "saying", "other"]) fun _ _ _ _ _ _ us hl => match us, hl with | [_, _, _], _ => rfl
  have FGives := fun_mk (st := sGives) lGives cGives kGives
  have mGives := PySem.W.mg_of X G aGives
  have bGives := FGives.binds (ps := ["saying", "other"]) fun _ _ _ _ _ _ us hl => match us, hl with | [_, _], _ => rfl
  have FGBO := fun_mk (st := sGivenByOne) lGBO cGBO kGBO
  have mGBO := PySem.W.mg_of X G aGBO
  have bGBO := FGBO.binds (ps := ["layout", "rule", "saying"]) fun _ _ _ _ _ _ us hl => match us, hl with | [_, _, _], _ => rfl
  have FGiven := fun_mk (st := sGiven) lGiven cGiven kGiven
  have mGiven := PySem.W.mg_of X G aGiven
  have bGiven := FGiven.binds (ps := ["layout", "rule", "saying"]) fun _ _ _ _ _ _ us hl => match us, hl with | [_, _, _], _ => rfl
  have FLeads := fun_mk (st := sLeads) lLeads cLeads kLeads
  have mLeads := PySem.W.mg_of X G aLeads
  have bLeads := FLeads.binds (ps := ["layout", "saying", "link"]) fun _ _ _ _ _ _ us hl => match us, hl with | [_, _, _], _ => rfl
  have FBegins := fun_mk (st := sBegins) lBegins cBegins kBegins
  have mBegins := PySem.W.mg_of X G aBegins
  have bBegins := FBegins.binds (ps := ["layout", "link"]) fun _ _ _ _ _ _ us hl => match us, hl with | [_, _], _ => rfl
  have FIsChain := fun_mk (st := sIsChain) lIsChain cIsChain kIsChain
  have mIsChain := PySem.W.mg_of X G aIsChain
  have bIsChain := FIsChain.binds (ps := ["house", "thing"]) fun _ _ _ _ _ _ us hl => match us, hl with | [_, _], _ => rfl
  have FPen := fun_mk (st := sPen) lPen cPen kPen
  have mPen := PySem.W.mg_of X G aPen
  have bPen := FPen.binds (ps := ["_law_script"]) fun _ _ _ _ _ _ us hl => match us, hl with | [_], _ => rfl
  have FDraw := fun_mk (st := sDraw) lDraw cDraw kDraw
  have mDraw := PySem.W.mg_of X G aDraw
  have bDraw := FDraw.binds (ps := ["_law_pen_here", "_law_many"]) fun _ _ _ _ _ _ us hl => match us, hl with | [_, _], _ => rfl
  have FPick := fun_mk (st := sPick) lPick cPick kPick
  have mPick := PySem.W.mg_of X G aPick
  have bPick := FPick.binds (ps := ["_law_pen_here", "_law_lot"]) fun _ _ _ _ _ _ us hl => match us, hl with | [_, _], _ => rfl
  have FNames := fun_mk (st := sNames) lNames cNames kNames
  have mNames := PySem.W.mg_of X G aNames
  have bNames := FNames.binds (ps := ["_law_pen_here", "_law_many"]) fun _ _ _ _ _ _ us hl => match us, hl with | [_, _], _ => rfl
  have FDials := fun_mk (st := sDials) lDials cDials kDials
  have mDials := PySem.W.mg_of X G aDials
  have bDials := FDials.binds (ps := ["_law_pen_here", "_law_many", "_law_wide"]) fun _ _ _ _ _ _ us hl => match us, hl with | [_, _, _], _ => rfl
  have FLNums := fun_mk (st := sLNums) lLNums cLNums kLNums
  have mLNums := PySem.W.mg_of X G aLNums
  have bLNums := FLNums.binds (ps := ["_law_pen_here", "_law_dials_here"]) fun _ _ _ _ _ _ us hl => match us, hl with | [_, _], _ => rfl
  have FSayL := fun_mk (st := sSay) lSayL cSayL kSayL
  have mSayL := PySem.W.mg_of X G aSayL
  have bSayL := FSayL.binds (ps := ["_law_pen_here", "_law_dials_here", "_law_at_here"]) fun _ _ _ _ _ _ us hl => match us, hl with | [_, _, _], _ => rfl
  have FLSaid := fun_mk (st := sLSaid) lLSaid cLSaid kLSaid
  have mLSaid := PySem.W.mg_of X G aLSaid
  have bLSaid := FLSaid.binds (ps := ["_law_saying_here", "_law_at_here"]) fun _ _ _ _ _ _ us hl => match us, hl with | [_, _], _ => rfl
  have FLRule := fun_mk (st := sLRule) lLRule cLRule kLRule
  have mLRule := PySem.W.mg_of X G aLRule
  have bLRule := FLRule.binds (ps := ["_law_pen_here", "_law_dials_here", "_law_at_here"]) fun _ _ _ _ _ _ us hl => match us, hl with | [_, _, _], _ => rfl
  have FHouseL := fun_mk (st := sHouseL) lHouseL cHouseL kHouseL
  have mHouseL := PySem.W.mg_of X G aHouseL
  have bHouseL := FHouseL.binds (ps := ["_law_pen_here", "_law_many", "_law_wide", "_law_rules"]) fun _ _ _ _ _ _ us hl => match us, hl with | [_, _, _, _], _ => rfl
  have FLHolds := fun_mk (st := sLHolds) lLHolds cLHolds kLHolds
  have mLHolds := PySem.W.mg_of X G aLHolds
  have bLHolds := FLHolds.binds (ps := ["_law_rule_here", "_law_at_here"]) fun _ _ _ _ _ _ us hl => match us, hl with | [_, _], _ => rfl
  have FLAt := fun_mk (st := sLAt) lLAt cLAt kLAt
  have mLAt := PySem.W.mg_of X G aLAt
  have bLAt := FLAt.binds (ps := ["_law_house_here", "_law_numbers_here"]) fun _ _ _ _ _ _ us hl => match us, hl with | [_, _], _ => rfl
  have FLStands := fun_mk (st := sLStands) lLStands cLStands kLStands
  have mLStands := PySem.W.mg_of X G aLStands
  have bLStands := FLStands.binds (ps := ["_law_house_here", "_law_numbers_here"]) fun _ _ _ _ _ _ us hl => match us, hl with | [_, _], _ => rfl
  have FLAll := fun_mk (st := sLAll) lLAll cLAll kLAll
  have mLAll := PySem.W.mg_of X G aLAll
  have bLAll := FLAll.binds (ps := ["_law_house_here"]) fun _ _ _ _ _ _ us hl => match us, hl with | [_], _ => rfl
  have FSmall := fun_mk (st := sSmall) lSmall cSmall kSmall
  have mSmall := PySem.W.mg_of X G aSmall
  have bSmall := FSmall.binds (ps := ["_law_pen_here"]) fun _ _ _ _ _ _ us hl => match us, hl with | [_], _ => rfl
  have FLDenies := fun_mk (st := sLDenies) lLDenies cLDenies kLDenies
  have mLDenies := PySem.W.mg_of X G aLDenies
  have bLDenies := FLDenies.binds (ps := ["_law_house_here", "_law_saying_here", "_law_other"]) fun _ _ _ _ _ _ us hl => match us, hl with | [_, _, _], _ => rfl
  have FLGives := fun_mk (st := sLGives) lLGives cLGives kLGives
  have mLGives := PySem.W.mg_of X G aLGives
  have bLGives := FLGives.binds (ps := ["_law_saying_here", "_law_other"]) fun _ _ _ _ _ _ us hl => match us, hl with | [_, _], _ => rfl
  have FLBrought := fun_mk (st := sLBrought) lLBrought cLBrought kLBrought
  have mLBrought := PySem.W.mg_of X G aLBrought
  have bLBrought := FLBrought.binds (ps := ["_law_house_here", "_law_rule_here", "_law_saying_here"]) fun _ _ _ _ _ _ us hl => match us, hl with | [_, _, _], _ => rfl
  have FLLinks := fun_mk (st := sLLinks) lLLinks cLLinks kLLinks
  have mLLinks := PySem.W.mg_of X G aLLinks
  have bLLinks := FLLinks.binds (ps := ["_law_house_here", "_law_front", "_law_by", "_law_saying_here"]) fun _ _ _ _ _ _ us hl => match us, hl with | [_, _, _, _], _ => rfl
  have FLIC := fun_mk (st := sLIsChain) lLIC cLIC kLIC
  have mLIC := PySem.W.mg_of X G aLIC
  have bLIC := FLIC.binds (ps := ["_law_house_here", "_law_chain_here"]) fun _ _ _ _ _ _ us hl => match us, hl with | [_, _], _ => rfl
  have FLNext := fun_mk (st := sLNext) lLNext cLNext kLNext
  have mLNext := PySem.W.mg_of X G aLNext
  have bLNext := FLNext.binds (ps := ["_law_pen_here", "_law_house_here", "_law_saying_here"]) fun _ _ _ _ _ _ us hl => match us, hl with | [_, _, _], _ => rfl
  have FLChain := fun_mk (st := sLChain) lLChain cLChain kLChain
  have mLChain := PySem.W.mg_of X G aLChain
  have bLChain := FLChain.binds (ps := ["_law_pen_here", "_law_house_here", "_law_at_here"]) fun _ _ _ _ _ _ us hl => match us, hl with | [_, _, _], _ => rfl
  have FLBent := fun_mk (st := sLBent) lLBent cLBent kLBent
  have mLBent := PySem.W.mg_of X G aLBent
  have bLBent := FLBent.binds (ps := ["_law_pen_here", "_law_house_here", "_law_at_here", "_law_chain_here"]) fun _ _ _ _ _ _ us hl => match us, hl with | [_, _, _, _], _ => rfl
  have FLaw := fun_mk (st := sLaw) lLaw cLaw kLaw
  have mLaw := PySem.W.mg_of X G aLaw
  have FInit := fun_mk (st := sInit) lInit cInit kInit
  have bInit := FInit.binds (ps := ["self", "house"]) fun _ _ _ _ _ _ us hl => match us, hl with | [_, _], _ => rfl
  refine ⟨PySem.W.fnOf "law" "law" (defArgs sLaw) (defBody sLaw) (defScope sLaw) .none kVLaw dcLaw pmLaw anLaw cdLaw ctLaw, [(xIsName, PIsName), (xTogether, PTogether)], fun p hp => ?_, fun s v => .of_eq rfl, fun bs _ _ htb => ?_⟩
  · rcases List.mem_cons.mp hp with e | e
    · rw [e]
      exact ⟨"is_name", dr1, hdr1, hTIsName, hPIsName⟩
    · rw [List.mem_singleton.mp e]
      exact ⟨"holds_together", dr2, hdr2, hTTogether, hPTogether⟩
  have TB := htb (xIsName, PIsName) List.mem_cons_self
  have TB2 := htb (xTogether, PTogether) (List.mem_cons_of_mem _ List.mem_cons_self)
  have n1 : PIsName ∈ [PIsName, PTogether] := List.mem_cons_self
  have n2 : PTogether ∈ [PIsName, PTogether] := List.mem_cons_of_mem _ List.mem_cons_self
  have oWhole := ok_whole (P := l.prog) (w := w) (base := bs) FWhole BH
  have oTupOf := ok_tupOf (P := l.prog) (w := w) (base := bs) FTupOf BH
  have oIsName := ok_isName (P := l.prog) (w := w) (base := bs) lIsName cIsName TB C BH
  have oPrice := ok_price FPrice oWhole bWhole kWhole mWhole C
  have oIsDial := ok_isDial FIsDial oWhole bWhole kWhole mWhole oTupOf bTupOf kTupOf mTupOf oIsName bIsName kIsName mIsName oPrice bPrice kPrice mPrice C
  have oIsSaying := ok_isSaying FIsSaying oWhole bWhole kWhole mWhole oTupOf bTupOf kTupOf mTupOf C
  have oIsRule := ok_isRule FIsRule oWhole bWhole kWhole mWhole oTupOf bTupOf kTupOf mTupOf oIsSaying bIsSaying kIsSaying mIsSaying C
  have oForm := ok_form FForm oTupOf bTupOf kTupOf mTupOf C
  have oFDial := ok_fDial FFDial oIsDial bIsDial kIsDial mIsDial BH
  have oFRule := ok_fRule FFRule oIsRule bIsRule kIsRule mIsRule BH
  have oFault := ok_fault FFault oForm bForm kForm mForm oFDial bFDial kFDial mFDial oFRule bFRule kFRule mFRule
  have oNamesIn := ok_namesIn (P := l.prog) (w := w) (base := bs) (mg := mg) FNamesIn 
  have oInit := ok_init FInit T oNamesIn bNamesIn kNamesIn mNamesIn
  have oCheckH := ok_checkH n1 FCheckH oFault bFault kFault mFault
  have oBegins := ok_begins FBegins T oTupOf bTupOf kTupOf mTupOf oIsSaying bIsSaying kIsSaying mIsSaying
  have oFitsNone := ok_fitsNone (P := l.prog) (w := w) (base := bs) (mg := mg) FFitsNone T
  have oDenies := ok_denies FDenies B T oFitsNone bFitsNone kFitsNone mFitsNone
  have oGives := ok_gives (P := l.prog) (w := w) (base := bs) (mg := mg) FGives 
  have oGBO := ok_gbo FGBO oDenies bDenies kDenies mDenies
  have oGiven := ok_given FGiven oGBO bGBO kGBO mGBO
  have oLeads := ok_leads FLeads B T ⟨_, PySem.W.mg_of X G y_by⟩ (PySem.W.mg_none_of X G z_any) oTupOf bTupOf kTupOf mTupOf oIsSaying bIsSaying kIsSaying mIsSaying oWhole bWhole kWhole mWhole oGives bGives kGives mGives oGiven bGiven kGiven mGiven
  have oTogether := ok_together n2 lTogether cTogether TB2 B BH.all ⟨_, PySem.W.mg_of X G y_lc⟩ oBegins bBegins kBegins mBegins oLeads bLeads kLeads mLeads
  have oIsChain := ok_isChain FIsChain T M oCheckH bCheckH kCheckH mCheckH oTogether bTogether kTogether mTogether oInit bInit
  have oPen := ok_pen (P := l.prog) (w := w) (base := bs) (mg := mg) FPen B
  have oDraw := (ok_draw (P := l.prog) (w := w) (base := bs) (mg := mg) FDraw B).imp draw_imp
  have oPick := ok_pick FPick oDraw bDraw kDraw mDraw B
  have oNames := ok_names FNames oDraw bDraw kDraw mDraw oPick bPick kPick mPick B
  have oDials := ok_dials FDials oDraw bDraw kDraw mDraw oPick bPick kPick mPick oNames bNames kNames mNames B
  have oLNums := ok_lnums FLNums oDraw bDraw kDraw mDraw oPick bPick kPick mPick B
  have oSayL := ok_sayL FSayL oDraw bDraw kDraw mDraw oPick bPick kPick mPick
  have oLSaid := ok_lsaid (P := l.prog) (w := w) (base := bs) (mg := mg) FLSaid 
  have oLRule := ok_lrule FLRule oDraw bDraw kDraw mDraw oPick bPick kPick mPick oSayL bSayL kSayL mSayL oLSaid bLSaid kLSaid mLSaid B
  have oHouseL := ok_houseW FHouseL oDials bDials kDials mDials oLNums bLNums kLNums mLNums oLRule bLRule kLRule mLRule B
  have oLHolds := ok_lholds FLHolds oLSaid bLSaid kLSaid mLSaid
  have oLAt := ok_lat (P := l.prog) (w := w) (base := bs) (mg := mg) FLAt B
  have oLStands := ok_lstandsK FLStands oLAt bLAt kLAt mLAt oLHolds bLHolds kLHolds mLHolds
  have oLAll := ok_lall FLAll B (PySem.W.mg_none_of X G z_sum) oLStands bLStands kLStands mLStands
  have oSmall := ok_small FSmall oDraw bDraw kDraw mDraw oHouseL bHouseL kHouseL mHouseL
  have oLDenies := ok_ldenies (P := l.prog) (w := w) (base := bs) (mg := mg) FLDenies B
  have oLGives := ok_lgives (P := l.prog) (w := w) (base := bs) (mg := mg) FLGives 
  have oLBrought := ok_lbrought FLBrought oLDenies bLDenies kLDenies mLDenies
  have oLLinks := ok_llinks FLLinks oLGives bLGives kLGives mLGives oLBrought bLBrought kLBrought mLBrought
  have oLIC := ok_lisChain FLIC B oLLinks bLLinks kLLinks mLLinks
  have oLNext := ok_lnext FLNext B oPick bPick kPick mPick oLBrought bLBrought kLBrought mLBrought
  have oLChain := ok_lchain FLChain B oDraw bDraw kDraw mDraw oSayL bSayL kSayL mSayL oLNext bLNext kLNext mLNext oLLinks bLLinks kLLinks mLLinks
  have oLBent := ok_lbent FLBent B oDraw bDraw kDraw mDraw oSayL bSayL kSayL mSayL oPick bPick kPick mPick
  exact ok_law (Ps := [PIsName, PTogether]) rfl FLaw ⟨⟨_, _, oPen, bPen, kPen, mPen⟩, ⟨_, _, oDraw, bDraw, kDraw, mDraw⟩, ⟨_, _, oPick, bPick, kPick, mPick⟩, ⟨_, _, oHouseL, bHouseL, kHouseL, mHouseL⟩, ⟨_, _, oSmall, bSmall, kSmall, mSmall⟩, ⟨_, _, oLAt, bLAt, kLAt, mLAt⟩, ⟨_, _, oLChain, bLChain, kLChain, mLChain⟩, ⟨_, _, oIsChain, bIsChain, kIsChain, mIsChain⟩, ⟨_, _, oLAll, bLAll, kLAll, mLAll⟩, ⟨_, _, oLBent, bLBent, kLBent, mLBent⟩, ⟨_, _, oLIC, bLIC, kLIC, mLIC⟩, ⟨_, _, oLSaid, bLSaid, kLSaid, mLSaid⟩⟩ B
end Pk
section
open PySem PySem.W PyProof.Rows
set_option maxHeartbeats 0
open_top hdK09 for PySem.Challenge.rw_pawldials_k09_chains_by_rules
end
open PySem PySem.W PyProof.Rows
set_option maxRecDepth 100000 in
set_option maxHeartbeats 0 in
theorem PySem.Challenge.cw_pawldials_k09_chains_by_rules_holds : PySem.Challenge.rw_pawldials_k09_chains_by_rules.Holds := by
  refine hdK09 ?_
  k_fill
  refine Pk.walkGT (l := PySem.Challenge.rw_pawldials_k09_chains_by_rules) (n := 63) (k := 18) (x := "_law_script") (sp := Pk.spLaw) ⟨rfl, by decide, by decide⟩ rfl (by decide) rfl (fun w h Y => PySem.W.kIn_of Y) ?G (fun K cs H a ns hl hT hS => ⟨a, ns, rfl, hS, hl, fun p hp => ⟨#[], hT p hp, trivial⟩, fun _ => rfl⟩)
  case G =>
    intro w mg fa h KX G hmg
    refine' Pk.all_mk KX G hmg ?gL ?aIsName ?lIsName ?cIsName ?kIsName ?aTogether ?lTogether ?cTogether ?kTogether ?aWhole ?lWhole ?cWhole ?kWhole ?aTupOf ?lTupOf ?cTupOf ?kTupOf ?aPrice ?lPrice ?cPrice ?kPrice ?aIsDial ?lIsDial ?cIsDial ?kIsDial ?aIsSaying ?lIsSaying ?cIsSaying ?kIsSaying ?aIsRule ?lIsRule ?cIsRule ?kIsRule ?aForm ?lForm ?cForm ?kForm ?aFDial ?lFDial ?cFDial ?kFDial ?aFRule ?lFRule ?cFRule ?kFRule ?aFault ?lFault ?cFault ?kFault ?aNamesIn ?lNamesIn ?cNamesIn ?kNamesIn ?aCheckH ?lCheckH ?cCheckH ?kCheckH ?aFitsNone ?lFitsNone ?cFitsNone ?kFitsNone ?aDenies ?lDenies ?cDenies ?kDenies ?aGives ?lGives ?cGives ?kGives ?aGBO ?lGBO ?cGBO ?kGBO ?aGiven ?lGiven ?cGiven ?kGiven ?aLeads ?lLeads ?cLeads ?kLeads ?aBegins ?lBegins ?cBegins ?kBegins ?aIsChain ?lIsChain ?cIsChain ?kIsChain ?aPen ?lPen ?cPen ?kPen ?aDraw ?lDraw ?cDraw ?kDraw ?aPick ?lPick ?cPick ?kPick ?aNames ?lNames ?cNames ?kNames ?aDials ?lDials ?cDials ?kDials ?aLNums ?lLNums ?cLNums ?kLNums ?aSayL ?lSayL ?cSayL ?kSayL ?aLSaid ?lLSaid ?cLSaid ?kLSaid ?aLRule ?lLRule ?cLRule ?kLRule ?aHouseL ?lHouseL ?cHouseL ?kHouseL ?aLHolds ?lLHolds ?cLHolds ?kLHolds ?aLAt ?lLAt ?cLAt ?kLAt ?aLStands ?lLStands ?cLStands ?kLStands ?aLAll ?lLAll ?cLAll ?kLAll ?aSmall ?lSmall ?cSmall ?kSmall ?aLDenies ?lLDenies ?cLDenies ?kLDenies ?aLGives ?lLGives ?cLGives ?kLGives ?aLBrought ?lLBrought ?cLBrought ?kLBrought ?aLLinks ?lLLinks ?cLLinks ?kLLinks ?aLIC ?lLIC ?cLIC ?kLIC ?aLNext ?lLNext ?cLNext ?kLNext ?aLChain ?lLChain ?cLChain ?kLChain ?aLBent ?lLBent ?cLBent ?kLBent ?aLaw ?lLaw ?cLaw ?kLaw ?aInit ?lInit ?cInit ?kInit ?y_far ?y_great ?y_dear ?y_long ?y_dials ?y_rules ?y_lc ?y_by ?y_W ?y_S ?y_R ?z_isinstance ?z_bool ?z_int ?z_str ?z_tuple ?z_list ?z_len ?z_all ?z_enumerate ?z_abs ?z_dict ?z_range ?z_repr ?z_sorted ?z_min ?z_max ?z_sum ?z_any ?hTIsName ?hPIsName ?hrIsName ?hTTogether ?hPTogether ?hrTogether ?hchk ?hcls
    (case gL => k_is); (case aIsName => k_is); (case lIsName => k_is); (case cIsName => k_is); (case kIsName => k_is); (case aTogether => k_is); (case lTogether => k_is); (case cTogether => k_is)
    (case kTogether => k_is); (case aWhole => k_is); (case lWhole => k_is); (case cWhole => k_is); (case kWhole => k_is); (case aTupOf => k_is); (case lTupOf => k_is); (case cTupOf => k_is)
    (case kTupOf => k_is); (case aPrice => k_is); (case lPrice => k_is); (case cPrice => k_is); (case kPrice => k_is); (case aIsDial => k_is); (case lIsDial => k_is); (case cIsDial => k_is)
    (case kIsDial => k_is); (case aIsSaying => k_is); (case lIsSaying => k_is); (case cIsSaying => k_is); (case kIsSaying => k_is); (case aIsRule => k_is); (case lIsRule => k_is); (case cIsRule => k_is)
    (case kIsRule => k_is); (case aForm => k_is); (case lForm => k_is); (case cForm => k_is); (case kForm => k_is); (case aFDial => k_is); (case lFDial => k_is); (case cFDial => k_is)
    (case kFDial => k_is); (case aFRule => k_is); (case lFRule => k_is); (case cFRule => k_is); (case kFRule => k_is); (case aFault => k_is); (case lFault => k_is); (case cFault => k_is)
    (case kFault => k_is); (case aNamesIn => k_is); (case lNamesIn => k_is); (case cNamesIn => k_is); (case kNamesIn => k_is); (case aCheckH => k_is); (case lCheckH => k_is); (case cCheckH => k_is)
    (case kCheckH => k_is); (case aFitsNone => k_is); (case lFitsNone => k_is); (case cFitsNone => k_is); (case kFitsNone => k_is); (case aDenies => k_is); (case lDenies => k_is); (case cDenies => k_is)
    (case kDenies => k_is); (case aGives => k_is); (case lGives => k_is); (case cGives => k_is); (case kGives => k_is); (case aGBO => k_is); (case lGBO => k_is); (case cGBO => k_is)
    (case kGBO => k_is); (case aGiven => k_is); (case lGiven => k_is); (case cGiven => k_is); (case kGiven => k_is); (case aLeads => k_is); (case lLeads => k_is); (case cLeads => k_is)
    (case kLeads => k_is); (case aBegins => k_is); (case lBegins => k_is); (case cBegins => k_is); (case kBegins => k_is); (case aIsChain => k_is); (case lIsChain => k_is); (case cIsChain => k_is)
    (case kIsChain => k_is); (case aPen => k_is); (case lPen => k_is); (case cPen => k_is); (case kPen => k_is); (case aDraw => k_is); (case lDraw => k_is); (case cDraw => k_is)
    (case kDraw => k_is); (case aPick => k_is); (case lPick => k_is); (case cPick => k_is); (case kPick => k_is); (case aNames => k_is); (case lNames => k_is); (case cNames => k_is)
    (case kNames => k_is); (case aDials => k_is); (case lDials => k_is); (case cDials => k_is); (case kDials => k_is); (case aLNums => k_is); (case lLNums => k_is); (case cLNums => k_is)
    (case kLNums => k_is); (case aSayL => k_is); (case lSayL => k_is); (case cSayL => k_is); (case kSayL => k_is); (case aLSaid => k_is); (case lLSaid => k_is); (case cLSaid => k_is)
    (case kLSaid => k_is); (case aLRule => k_is); (case lLRule => k_is); (case cLRule => k_is); (case kLRule => k_is); (case aHouseL => k_is); (case lHouseL => k_is); (case cHouseL => k_is)
    (case kHouseL => k_is); (case aLHolds => k_is); (case lLHolds => k_is); (case cLHolds => k_is); (case kLHolds => k_is); (case aLAt => k_is); (case lLAt => k_is); (case cLAt => k_is)
    (case kLAt => k_is); (case aLStands => k_is); (case lLStands => k_is); (case cLStands => k_is); (case kLStands => k_is); (case aLAll => k_is); (case lLAll => k_is); (case cLAll => k_is)
    (case kLAll => k_is); (case aSmall => k_is); (case lSmall => k_is); (case cSmall => k_is); (case kSmall => k_is); (case aLDenies => k_is); (case lLDenies => k_is); (case cLDenies => k_is)
    (case kLDenies => k_is); (case aLGives => k_is); (case lLGives => k_is); (case cLGives => k_is); (case kLGives => k_is); (case aLBrought => k_is); (case lLBrought => k_is); (case cLBrought => k_is)
    (case kLBrought => k_is); (case aLLinks => k_is); (case lLLinks => k_is); (case cLLinks => k_is); (case kLLinks => k_is); (case aLIC => k_is); (case lLIC => k_is); (case cLIC => k_is)
    (case kLIC => k_is); (case aLNext => k_is); (case lLNext => k_is); (case cLNext => k_is); (case kLNext => k_is); (case aLChain => k_is); (case lLChain => k_is); (case cLChain => k_is)
    (case kLChain => k_is); (case aLBent => k_is); (case lLBent => k_is); (case cLBent => k_is); (case kLBent => k_is); (case aLaw => k_is); (case lLaw => k_is); (case cLaw => k_is)
    (case kLaw => k_is); (case aInit => k_is); (case lInit => k_is); (case cInit => k_is); (case kInit => k_is); (case y_far => k_is); (case y_great => k_is); (case y_dear => k_is)
    (case y_long => k_is); (case y_dials => k_is); (case y_rules => k_is); (case y_lc => k_is); (case y_by => k_is); (case y_W => k_is); (case y_S => k_is); (case y_R => k_is)
    (case z_isinstance => k_is); (case z_bool => k_is); (case z_int => k_is); (case z_str => k_is); (case z_tuple => k_is); (case z_list => k_is); (case z_len => k_is); (case z_all => k_is)
    (case z_enumerate => k_is); (case z_abs => k_is); (case z_dict => k_is); (case z_range => k_is); (case z_repr => k_is); (case z_sorted => k_is); (case z_min => k_is); (case z_max => k_is)
    (case z_sum => k_is); (case z_any => k_is)
    (case hTIsName => refine' Pk.tab_in ?a ?l ?hc ?lc ?hv; (case a => k_is); (case l => k_is); (case hc => rfl); (case lc => k_is); (case hv => rfl))
    (case hPIsName => kernel_rfl)
    (case hrIsName => kernel_rfl)
    (case hTTogether => refine' Pk.tab_in ?a ?l ?hc ?lc ?hv; (case a => k_is); (case l => k_is); (case hc => rfl); (case lc => k_is); (case hv => rfl))
    (case hPTogether => kernel_rfl)
    (case hrTogether => kernel_rfl)
    (case hchk => kernel_rfl)
    (case hcls => kernel_rfl)
