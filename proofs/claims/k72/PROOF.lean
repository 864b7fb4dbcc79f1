import PyProof.Rows.All
import Wide.All
import OpenK.AllK
import Wide.FinOn
import HandS.ForMost
import HandS.Exc
import HandS.ExcOwn
import HandS.ExcValue
import HandS.ExcInit
import HandS.ExcField
import HandS.ExcIs
import HandS.IsInst
import HandS.DictComp
import KE.KExcIs
import KE.KIsAll
import PyProof.ReprRoads
import PyProof.ExcFactsAll.LookupError
import PyProof.ExcFactsAll.RuntimeError
import PyProof.ExcFactsAll.ValueError
import PyProof.EqAt
import PyProof.EqKinds
import PyProof.FactsAll.subtypes_3
import PyProof.FactsAll.subtypes_4
import PyProof.FactsAll.dict_1
import PyProof.CallFns
import PyProof.Draws
import PyProof.EnumMake
import PyProof.TupleIter
import HandS.AnyAll
import HandS.EndBits
import HandS.Lambda
import KE.KLam
import HandS.Walk
import HandS.Style
import HandS.TupAny
import HandS.More
import HandS.Deep
import PyProof.Rows.IntBool
import PyProof.CallStr
import HandS.Wide
import PyProof.ReprBulk
import HandS.TryOnly
import PyProof.Rows.StrMeet
import PyProof.Rows.ReprOcc
import KE.GoesZip
import PyProof.GenCompD
import HandS.Zip
import KE.KDictZip
import HandS.Flow
import HandS.Iter
import HandS.Text
import HandS.FStr
import KE.IntTextLaws
import HandS.WordsExc
import KE.GoesMore
import KE.GoesNew
import KE.GoesEnum
import HandS.SetTxt0
import HandS.SetFor
import HandS.Strs
import PyProof.Rows.SortStr
import HandS.TupSets
import KE.KeyNested
import HandS.Call
import HandS.TryMany
import PyProof.StrBlock2
import HandS.RaiseMore
import PySem.Challenge.RW_pawldials_k72_whole_house_texts_refused
set_option Elab.async false
set_option maxRecDepth 100000
/-! Own rules: errors that are held as values, and data of any depth with dicts in it. -/
namespace Pk
open PySem L2 PySem.Spec PyProof.Rows

theorem sameNew {H : Hp} {p : Addr} (h : H p = none) (o : HO) : Same H (upd H p o) := fun b u q => by rw [upd_ne (ne_of_none q h)]; exact q

/-! ### errors as values -/
/-- at a: an error of the class at C, with these fields -/
def Exq (H : Hp) (a C : Addr) (fs : List (Str × V)) : Prop :=
  (fs = [] ∧ H a = some (ExO (.ref C) a)) ∨ ∃ d, H a = some (exo a C (some d)) ∧ H d = some (exd d fs)
theorem Exq.same {H H' : Hp} {a C : Addr} {fs : List (Str × V)} (s : Same H H') (e : Exq H a C fs) : Exq H' a C fs := by
  rcases e with ⟨h, e⟩ | ⟨d, e, f⟩
  · exact .inl ⟨h, s _ _ e⟩
  · exact .inr ⟨d, s _ _ e, s _ _ f⟩
section
variable {X : Cx}
/-- C(), a class without an own __init__ -/
theorem pe_exq0 {C : Addr} {bmB : List Value} {B newId initId : String} {x : Str} {p pos : Pos} (F : ExcBaseFacts B newId initId bmB) (q : PySem.W.excIn X.K C bmB newId = true) (gC : X.mg x = some (.ref C)) (kC : PySem.W.keepIn X.K (.ref C) = true) (hg : Gl X x)
    (hdg : (x == ("__debug__" : Str)) = false := by decide) :
    PE X (.Call (.Name x p) [] [] pos) (fun σ H Q => ∀ a H', Same H H' → Exq H' a C [] → Q (.ref a) H') := by
  refine ⟨fun pz s σ H Q I h => ?_⟩
  refine wpAny_Call_Name_kw (ld_glob I hg gC ?_ hdg)
  refine PySem.W.callWith_K0 I.kIn kC ?_
  show wpAny _ _ (call (.ref C) []) _ _ _
  obtain ⟨bm, N, n0, qn, bs, hdct, sn, sub, ab, col, dd, k0, k1, k2, k3, k5, mN, hcl0, hN, hni, TT⟩ := exc_obj I.kIn q
  refine wpAny_call_exc_subT F TT hcl0 hN hni (fun h' a hm => ?_) (by show 0 ≤ sizeLine; omega)
  have hn : H a = none := I.hok.gone hm.new
  obtain ⟨t, htt, _, _⟩ := hm.there
  exact ⟨.ref a, upd H a (ExO (.ref C) a), I.laidN hm.keeps hm.new hn (exO_ok htt ⟨rfl, rfl⟩ rfl rfl rfl (show 4 < 6 by decide)), rfl, h a _ (sameNew hn _) (.inl ⟨rfl, upd_same⟩)⟩
/-- C(e, ..), C's own __init__ keeping sp; the error is the value -/
def tMkV (C : Addr) (sp : Sp) (ta : TA) : TE := fun σ H Q => ta σ H fun vs Ha => vs.length ≤ 1000 ∧ ∀ a, Ha a = none → sp (.ref a :: vs) (upd Ha a (exo a C none)) (fun v H2 => v = .non ∧ Q (.ref a) H2) (fun _ _ _ => False)
theorem pe_mkV {e : Expr} {es : List Expr} {ta : TA} {p pos : Pos} {CX : CXT} {x : Str} {C fI : Addr} {k : Nat} {fd : FuncData} {ps : List Str} {sp : Sp} (TT : OexC X.K C) (iC : PySem.W.findIn X.K (.ref C) "__init__" = some (some (.ref fI))) (tI : PySem.W.typeIn X.K (.ref fI) = some (.type "function"))
    (F1 : FnOk X.prog X.w X.K X.mg X.base CX k fI fd ps sp) (hr : Room (k + 1) X.A) (hb : Binds X.K fd ps []) (hx : Passes CX X (fun _ _ _ => False)) (hg : Gl X x) (hm : X.mg x = some (.ref C)) (ha : PA X (e :: es) ta)
    (hdg : (x == ("__debug__" : Str)) = false := by decide) (he : starEach (e :: es) X.env = (false, eval e X.env) :: starEach es X.env := by rfl) (hpz : (backTo pos (starEach es X.env)).any (·.1) = false := by rfl) :
    PE X (.Call (.Name x p) (e :: es) [] pos) (tMkV C sp ta) := by
  refine ⟨fun pz s σ H Q I h => ?_⟩
  obtain ⟨n0, q, N, bs, bm, sn, sub, ab, col, dd, k0, k1, k2, k3, k5, hcl0, hbq⟩ := TT.cls
  refine wpAny_Call_Name_kw (ld_glob I hg hm ?_ hdg)
  refine PySem.W.callWith_K (h₀ := X.base) I.ok.mod.kin TT.kC (thn (ha.run pos pz s σ H _ I h) fun ua sa ⟨vs, Ha, Ia, ra, hy, qa⟩ => ⟨Ia.kIn, ?_⟩) he hpz
  show wpAny _ _ (call (.ref C) ua) _ _ _
  obtain ⟨hq, g, dw, tz, oz⟩ := sa
  have hsa : hq.objs.size ≤ hq.objs.size + 1 := Nat.le_succ _
  have hn : Ha (hq.objs.size + 1) = none := Ia.hok.fresh hsa
  have hf0 := qa (hq.objs.size + 1) hn
  have kq : ∀ b o, hq.get? b = some o → ((hq.push (PySem.W.kdv_tup ua)).push (PySem.HandSPX.excO C hq.objs.size)).get? b = some o := fun b o e => Heap.get?_push_of_some _ (Heap.get?_push_of_some _ e)
  have hgq : ((hq.push (PySem.W.kdv_tup ua)).push (PySem.HandSPX.excO C hq.objs.size)).get? (hq.objs.size + 1) = some (PySem.HandSPX.excO C hq.objs.size) := by heap_get
  have Ib : Inv X pz σ (upd Ha (hq.objs.size + 1) (exo (hq.objs.size + 1) C none)) ⟨(hq.push (PySem.W.kdv_tup ua)).push (PySem.HandSPX.excO C hq.objs.size), g, dw, tz, oz⟩ :=
    Ia.laid (t' := tz) (a := hq.objs.size + 1) (o := exo (hq.objs.size + 1) C none) (h' := (hq.push (PySem.W.kdv_tup ua)).push (PySem.HandSPX.excO C hq.objs.size)) kq hsa (exo_ok hgq)
  have rb : Vals (V.ref (hq.objs.size + 1) :: vs) (Value.ref (hq.objs.size + 1) :: ua) := .cons rfl ra
  have hl : (Value.ref (hq.objs.size + 1) :: ua).length = ps.length := by
    have e := rb.length
    rw [F1.len _ _ _ _ hf0] at e
    exact e.symm
  have hua : ua.length ≤ sizeLine := by
    rw [← Paired.length ra, sizeLine_eq]
    omega
  have b := hb ⟨(hq.push (PySem.W.kdv_tup ua)).push (PySem.HandSPX.excO C hq.objs.size), g, dw, tz, oz⟩ (Value.ref (hq.objs.size + 1) :: ua) Ib.kIn (by rw [List.append_nil]; exact hl)
  rw [List.append_nil] at b
  refine wpAny_call (PySem.HandSPX.call_own F.excBase_ValueError (fun Y => PySem.HandSPX.refsVE_contains Y bm hbq) (Ia.kIn _ _ hcl0) (PySem.W.looks_findIn Ia.kIn iC) (fun self => PySem.W.bind_fn Ia.kIn self tI) hua
    (codeAny_mono (F1.run _ X.stack _ _ ⟨Value.ref (hq.objs.size + 1) :: ua, []⟩ (Value.ref (hq.objs.size + 1) :: ua) _ _ (fun _ _ _ => False) (hr.make C ua []) (Ib.env0.make C ua []) b rb hf0) fun r s' hw' => ?_))
  cases r with
  | error ee => exact hx pz σ _ _ ee s' Ib hw'
  | ok fl =>
    cases fl with
    | ret u =>
      obtain ⟨v, H', Ic, rz, ev, q3⟩ := Ib.after hw'
      subst ev
      exact ⟨rz, ⟨V.ref (hq.objs.size + 1), H', Ic, rfl, q3⟩⟩
    | next => exact hw'.elim
    | brk => exact hw'.elim
    | cont => exact hw'.elim
/-- e.f of an error that is held as a value -/
theorem pe_exf {e : Expr} {te : TE} {pos : Pos} {n : Str} (he : PE X e te) (hb : attributeBase e n X.env (eval e X.env) = eval e X.env := by rfl) :
    PE X (.Attribute e n pos) (fun σ H Q => te σ H fun x Ha => ∃ (a C : Addr) (fs : List (Str × V)) (v : V), x = .ref a ∧ Exq Ha a C fs ∧ XfC X.K C ∧ PySem.W.findIn X.K (.ref C) n = some none ∧ fs.lookup n = some v ∧ Q v Ha) := by
  refine ⟨fun pz s σ H Q I h => ?_⟩
  refine attr_of hb (thn (he.run pz s σ H _ I h) fun u sa hw => ?_)
  obtain ⟨x, Ha, Ia, ry, a, C, fs, v, ex, ea, TT, hnn, l, q⟩ := hw
  subst ex
  cases (show u = .ref a from ry)
  rcases ea with ⟨hf, _⟩ | ⟨dd, e1, e2⟩
  · subst hf
    cases l
  · obtain ⟨t1, ha⟩ := exo_at Ia.hok e1
    obtain ⟨mq, hnq, hr⟩ := exd_at Ia.hok e2
    obtain ⟨oq, ho, hl⟩ := lookIn_ns hnq
    obtain ⟨u, hu, ru⟩ := RelO.some_of (v := v) (o := mq n) (by rw [← l]; exact hr n)
    have J : PySem.W.InstAt sa.heap a { cls := .ref C, dict := some dd, data := .fields #[.ref t1, .none, .none, .none, .bool false, .none] } C (some oq) := ⟨ha, rfl, rfl, ho⟩
    exact HandSPX.exc_get Ia.kIn J TT.ga TT.gg TT.exC (PySem.W.findObj_own TT.hdC hnn rfl (by rw [hl, hu])) (handed_of ru) ⟨v, Ha, Ia.tok _, ru, q⟩
/-- what isinstance asks of such an error -/
theorem Exq.kit {pz : List (Addr × Obj)} {σ : L2.St} {H : Hp} {s : Shared} {a C : Addr} {fs : List (Str × V)} (I : L2.Inv X pz σ H s) (e : Exq H a C fs) (TT : ExcC X.K C) : ∃ P : Heap → Prop, PySem.W.KitX X.K (.ref a) (.ref C) P ∧ P s.heap := by
  have hcl : (PySem.W.clsIn X.K C).isSome = true := by
    obtain ⟨cd, hc, _⟩ := PySem.W.any_some TT.hd
    rw [hc]
    rfl
  rcases e with ⟨_, e⟩ | ⟨dd, e1, e2⟩
  · obtain ⟨⟨oe, vs, ho, hy, hd, _⟩, _, _⟩ := I.hok a _ e
    refine ⟨_, PySem.W.kitx_exc (ox := oe) (od := none) hcl TT.hg TT.hk TT.hs TT.ha TT.hn TT.ht TT.hm, ?_⟩
    obtain ⟨oc, oq, oda, osl⟩ := oe
    obtain ⟨h1, h2⟩ := hy
    dsimp only at h1 h2 hd
    subst h1 h2 hd
    exact ⟨ho, rfl, rfl, trivial⟩
  · obtain ⟨t1, ha⟩ := exo_at I.hok e1
    obtain ⟨mq, hnq, hr⟩ := exd_at I.hok e2
    obtain ⟨oq, ho, hl⟩ := lookIn_ns hnq
    exact ⟨_, PySem.W.kitx_exc (ox := { cls := .ref C, dict := some dd, data := .fields #[.ref t1, .none, .none, .none, .bool false, .none] }) (od := some oq) hcl TT.hg TT.hk TT.hs TT.ha TT.hn TT.ht TT.hm, ⟨ha, rfl, rfl, ho⟩⟩
/-- isinstance(e, c) -/
theorem call_isQ : CallR X (.builtin "isinstance") (fun xs H Q => ∃ (a C : Addr) (fs : List (Str × V)) (c : V) (u : Value) (b : Bool), xs = [.ref a, c] ∧ Exq H a C fs ∧ ExcC X.K C ∧ ClsV c u ∧ PySem.W.kitOne X.K (.ref C) u = some b ∧ Q (.bl b) H) := by
  intro pz s σ H xs ua Q I r h
  obtain ⟨a, C, fs, c, u, b, rfl, ea, TT, k, e, q⟩ := h
  obtain ⟨u1, u2, rfl, ra, rb⟩ := vals2 r
  have e2 := k.eq rb
  subst e2
  cases (show u1 = Value.ref a from ra)
  obtain ⟨P, Z, p⟩ := ea.kit I TT
  exact PySem.W.kia_one Z I.kIn p e (fun z => nomatch z) fun tz => ⟨.bl b, H, I.tok tz, rfl, q⟩
/-- isinstance(e, (c1, c2, ..)) -/
theorem call_isQT : CallR X (.builtin "isinstance") (fun xs H Q => ∃ (a C : Addr) (fs : List (Str × V)) (tp : Addr) (cs : List V) (ws : List Value) (b : Bool), xs = [.ref a, .ref tp] ∧ Exq H a C fs ∧ ExcC X.K C ∧ H tp = some (.tup cs) ∧ Paired ClsV cs ws ∧ PySem.W.kitAny X.K (.ref C) ws = some b ∧ Q (.bl b) H) := by
  intro pz s σ H xs ua Q I r h
  obtain ⟨a, C, fs, tp, cs, ws, b, rfl, ea, TT, htp, k, e, q⟩ := h
  obtain ⟨u1, u2, rfl, ra, rb⟩ := vals2 r
  cases (show u2 = Value.ref tp from rb)
  cases (show u1 = Value.ref a from ra)
  obtain ⟨P, Z, p⟩ := ea.kit I TT
  obtain ⟨_, itz, rz, o, h1, h2, n, h3⟩ := (show ObjOk X.prog X.w H s.heap tp (.tup cs) from I.hok tp _ htp)
  have e3 := ClsV.all k rz
  subst e3
  obtain ⟨oc, oq, dt, sl⟩ := o
  simp only at h2 h3
  subst h2 h3
  exact PySem.W.kia_tup Z I.kIn p h1 e (fun z => nomatch z) fun tz => ⟨.bl b, H, I.tok tz, rfl, q⟩
end
end Pk
namespace Pk
open PySem L2 PySem.Spec PyProof.Rows

/-! ### data of any depth in the heap -/
/-- a key as data -/
def keyD : Key → PyData
  | .inl i => .int i
  | .inr x => .str x
mutual
/-- v is this data -/
inductive Tr (H : Hp) : V → PyData → Prop
  | non : Tr H .non .none
  | bl (b : Bool) : Tr H (.bl b) (.bool b)
  | int (i : Int) : Tr H (.int i) (.int i)
  | str (x : Str) : Tr H (.str x) (.str x)
  | lst {a : Addr} {xs : List V} {ds : List PyData} : H a = some (.lst xs) → TrAll H xs ds → Tr H (.ref a) (.list ds)
  | tup {a : Addr} {xs : List V} {ds : List PyData} : H a = some (.tup xs) → TrAll H xs ds → Tr H (.ref a) (.tuple ds)
  | dct {a : Addr} {kvs : List (Key × V)} {es : List (PyData × PyData)} : H a = some (.dK kvs) → (kvs.map (·.1)).Nodup → es.map (·.1) = kvs.map (fun p => keyD p.1) → TrAll H (kvs.map (·.2)) (es.map (·.2)) → Tr H (.ref a) (.dict es)
inductive TrAll (H : Hp) : List V → List PyData → Prop
  | nil : TrAll H [] []
  | cons {v : V} {vs : List V} {d : PyData} {ds : List PyData} : Tr H v d → TrAll H vs ds → TrAll H (v :: vs) (d :: ds)
end
mutual
theorem Tr.same {H H' : Hp} (s : Same H H') : ∀ {v : V} {d : PyData}, Tr H v d → Tr H' v d
  | _, _, .non => .non
  | _, _, .bl b => .bl b
  | _, _, .int i => .int i
  | _, _, .str x => .str x
  | _, _, .lst h a => .lst (s _ _ h) (TrAll.same s a)
  | _, _, .tup h a => .tup (s _ _ h) (TrAll.same s a)
  | _, _, .dct h n e a => .dct (s _ _ h) n e (TrAll.same s a)
theorem TrAll.same {H H' : Hp} (s : Same H H') : ∀ {vs : List V} {ds : List PyData}, TrAll H vs ds → TrAll H' vs ds
  | _, _, .nil => .nil
  | _, _, .cons h t => .cons (Tr.same s h) (TrAll.same s t)
end
theorem TrAll.length {H : Hp} : ∀ {vs : List V} {ds : List PyData}, TrAll H vs ds → vs.length = ds.length
  | _, _, .nil => rfl
  | _, _, .cons _ t => by rw [List.length_cons, List.length_cons, TrAll.length t]
theorem TrAll.get {H : Hp} : ∀ {vs : List V} {ds : List PyData} {i : Nat} {v : V}, TrAll H vs ds → vs[i]? = some v → ∃ d, ds[i]? = some d ∧ Tr H v d
  | _, _, i, v, .nil, h => by simp at h
  | _, _, 0, v, .cons h t, e => by
    cases (show some _ = some v from e)
    exact ⟨_, rfl, h⟩
  | _, _, i + 1, v, .cons h t, e => by
    exact TrAll.get (i := i) t e
theorem TrAll.snoc {H : Hp} : ∀ {vs : List V} {ds : List PyData} {v : V} {d : PyData}, TrAll H vs ds → Tr H v d → TrAll H (vs ++ [v]) (ds ++ [d])
  | _, _, _, _, .nil, one => .cons one .nil
  | _, _, _, _, .cons h t, g => .cons h (TrAll.snoc t g)
theorem TrAll.append {H : Hp} : ∀ {vs ws : List V} {ds es : List PyData}, TrAll H vs ds → TrAll H ws es → TrAll H (vs ++ ws) (ds ++ es)
  | _, _, _, _, .nil, g => g
  | _, _, _, _, .cons h t, g => .cons h (TrAll.append t g)
theorem Tr.isList {H : Hp} {v : V} {ds : List PyData} (h : Tr H v (.list ds)) : ∃ a xs, v = .ref a ∧ H a = some (.lst xs) ∧ TrAll H xs ds := by
  cases h with
  | lst h t => exact ⟨_, _, rfl, h, t⟩
theorem Tr.isTup {H : Hp} {v : V} {ds : List PyData} (h : Tr H v (.tuple ds)) : ∃ a xs, v = .ref a ∧ H a = some (.tup xs) ∧ TrAll H xs ds := by
  cases h with
  | tup h t => exact ⟨_, _, rfl, h, t⟩
theorem TrAll.rep {H : Hp} {v : V} {d : PyData} (h : Tr H v d) : ∀ n : Nat, TrAll H (List.replicate n v) (List.replicate n d)
  | 0 => .nil
  | n + 1 => .cons h (TrAll.rep h n)
/-- the keys of a dict, read -/
theorem reads_keys {P : Program} {w : World} {h : Heap} : ∀ {es : List DictEntry} {kvs : List (Key × V)} {vs : List (Key × Value)}, Pairs (mixKind P w) es vs → KV kvs vs → ReadsAll h (es.map (·.key)) (kvs.map (fun p => keyD p.1)) []
  | _, _, _, .nil, .nil => .nil
  | _, _, _, .cons hk hv t, .cons r rs => by
    have ih := reads_keys (h := h) t rs
    simp only [List.map_cons]
    refine ReadsAll.cons (as := []) (bs := []) ?_ ih
    rw [← r.1] at hk
    rcases keyIs_shape hk with ⟨i, u, e1, e2⟩ | ⟨x, u, e1, e2⟩
    · rw [e1, e2]
      exact Reads.int i u
    · rw [e1, e2]
      exact Reads.str x u
theorem vals_of_pairs {P : Program} {w : World} : ∀ {es : List DictEntry} {kvs : List (Key × V)} {vs : List (Key × Value)}, Pairs (mixKind P w) es vs → KV kvs vs → Vals (kvs.map (·.2)) (es.map (·.val))
  | _, _, _, .nil, .nil => .nil
  | _, _, _, .cons hk hv t, .cons r rs => by
    rw [List.map_cons, List.map_cons, hv]
    exact .cons r.2 (vals_of_pairs t rs)
section
variable {X : Cx} {H : Hp} {s : Shared} {σ : L2.St} {pins : List (Addr × Obj)}
mutual
theorem Tr.reads (I : L2.Inv X pins σ H s) : ∀ {v : V} {d : PyData}, Tr H v d → ∀ u : Value, RelV v u → ∃ as, Reads s.heap u d as
  | _, _, .non, u, r => by
    cases (show u = Value.none from r)
    exact ⟨_, Reads.none⟩
  | _, _, .bl b, u, r => by
    cases (show u = Value.bool b from r)
    exact ⟨_, Reads.bool b⟩
  | _, _, .int i, u, r => by
    obtain ⟨t, e⟩ := (show ∃ t, u = Value.int i t from r)
    cases e
    exact ⟨_, Reads.int i t⟩
  | _, _, .str x, u, r => by
    obtain ⟨t, e⟩ := (show ∃ t, u = Value.str x t from r)
    cases e
    exact ⟨_, Reads.str x t⟩
  | _, _, @Tr.lst _ a xs ds h al, u, r => by
    cases (show u = Value.ref a from r)
    obtain ⟨_, its, n, rv, ho⟩ := (show ObjOk X.prog X.w H s.heap a (.lst xs) from I.hok a _ h)
    obtain ⟨as, q⟩ := TrAll.reads I al its rv
    exact ⟨_, Reads.list ho rfl rfl (by simpa using q)⟩
  | _, _, @Tr.tup _ a xs ds h al, u, r => by
    cases (show u = Value.ref a from r)
    obtain ⟨_, its, rv, o, ho, hc, n, hd⟩ := (show ObjOk X.prog X.w H s.heap a (.tup xs) from I.hok a _ h)
    obtain ⟨as, q⟩ := TrAll.reads I al its rv
    exact ⟨_, Reads.tuple ho hc hd (by simpa using q)⟩
  | _, _, @Tr.dct _ a kvs es h nd ek al, u, r => by
    cases (show u = Value.ref a from r)
    obtain ⟨_, _, vs, rel, o, des, ep, ho, hx, hd, _, pr, _⟩ := (show ObjOk X.prog X.w H s.heap a (.dK kvs) from I.hok a _ h)
    obtain ⟨bs, q⟩ := TrAll.reads I al _ (vals_of_pairs pr rel)
    exact ⟨_, Reads.dict ho hx.1 hd (by rw [ek]; exact reads_keys pr rel) q⟩
theorem TrAll.reads (I : L2.Inv X pins σ H s) : ∀ {vs : List V} {ds : List PyData}, TrAll H vs ds → ∀ us : List Value, Vals vs us → ∃ as, ReadsAll s.heap us ds as
  | _, _, .nil, us, r => by
    cases r
    exact ⟨_, ReadsAll.nil⟩
  | _, _, .cons h t, us, r => by
    cases r with
    | cons r1 r2 =>
      obtain ⟨as, q1⟩ := Tr.reads I h _ r1
      obtain ⟨bs, q2⟩ := TrAll.reads I t _ r2
      exact ⟨as ++ bs, .cons q1 q2⟩
end
end
/-- data without lists and dicts in it that stand at an address of their own -/
def plainD : PyData → Bool
  | .int _ | .str _ | .none | .bool _ => true
  | _ => false
def plainAll : (ds : List PyData) → Bool
  | [] => true
  | d :: ds => plainD d && plainAll ds
/-- a dict of plain things -/
def flatDict : PyData → Bool
  | .dict es => plainAll (es.map (·.2))
  | _ => false
section
variable {X : Cx} {H : Hp} {s : Shared} {σ : L2.St} {pins : List (Addr × Obj)}
theorem plain_reads {h : Heap} : ∀ {us : List Value} {ds : List PyData} {as : List Addr}, ReadsAll h us ds as → plainAll ds = true → as = []
  | _, _, _, .nil, _ => rfl
  | _, _, _, .cons hd tl, e => by
    rw [plainAll, Bool.and_eq_true] at e
    have ih := plain_reads tl e.2
    subst ih
    cases hd with
    | none => rfl
    | bool b => rfl
    | int i t => rfl
    | str x t => rfl
    | list _ _ _ _ => exact absurd e.1 (by simp [plainD])
    | tuple _ _ _ _ => exact absurd e.1 (by simp [plainD])
    | dict _ _ _ _ _ => exact absurd e.1 (by simp [plainD])
/-- flat dicts side by side lie at no address that the system keeps -/
theorem TrAll.flat (I : L2.Inv X pins σ H s) : ∀ {vs : List V} {ds : List PyData}, TrAll H vs ds → (∀ d ∈ ds, flatDict d = true) → ∀ us : List Value, Vals vs us → ∃ as, ReadsAll s.heap us ds as ∧ sysModules ∉ as
  | _, _, .nil, _, us, r => by
    cases r
    exact ⟨_, ReadsAll.nil, by simp⟩
  | _, _, @TrAll.cons _ v vs d ds h t, f, us, r => by
    cases r with
    | cons r1 r2 =>
      rename_i u us
      obtain ⟨bs, q2, n2⟩ := TrAll.flat I t (fun d hd => f d (List.mem_cons_of_mem _ hd)) _ r2
      have fd := f d List.mem_cons_self
      cases h with
      | non => cases fd
      | bl b => cases fd
      | int i => cases fd
      | str x => cases fd
      | lst _ _ => cases fd
      | tup _ _ => cases fd
      | @dct a kvs es h nd ek al =>
        cases (show u = Value.ref a from r1)
        obtain ⟨_, hsys, vs, rel, o, des, ep, ho, hx, hd, _, pr, _⟩ := (show ObjOk X.prog X.w H s.heap a (.dK kvs) from I.hok a _ h)
        obtain ⟨cs, q⟩ := TrAll.reads I al _ (vals_of_pairs pr rel)
        have ec := plain_reads q fd
        subst ec
        refine ⟨_, ReadsAll.cons (Reads.dict ho hx.1 hd (by rw [ek]; exact reads_keys pr rel) q) q2, ?_⟩
        intro z
        rcases List.mem_append.mp z with z | z
        · have z' : sysModules = a := by simpa using z
          rw [z'] at hsys
          simp at hsys
        · exact n2 z
end
/-- repr of a list, where what stands in it lies at no address that the system keeps -/
theorem repr_listD {prog : Program} {w : World} {A : Around} {E : Value → Shared → Prop} {s : Shared} {Q : Value → Shared → Prop} {a : Addr} {o : Obj} {vs : List Value} {n : Nat} {xs : List PyData} {as : List Addr}
    (h1 : s.heap.get? a = some o) (h2 : o.cls = .type "list") (h3 : o.data = .seq vs.toArray n) (h4 : ReadsAll s.heap vs xs as) (hs : PyData.showableAll xs = true) (hm : PyData.hasDictAll xs = true → sysModules ∉ as) (hg : A.guards = some [])
    (hu : A.units + (PyData.depth (.list xs) + 1) < cLine) (hsz : (PyData.shown (.list xs)).length ≤ sizeLine)
    (hQ : ∀ h' u tk, (∀ b o, s.heap.get? b = some o → h'.get? b = some o) → Q (.str (PyData.shown (.list xs)) u) { s with heap := h', toks := tk }) : wpAny (model prog w) A (call (.builtin "repr") [.ref a]) Q E s := by
  have zl : (listText (PyData.shownAll xs)).length ≤ sizeLine := by simpa only [PyData.shown] using hsz
  obtain ⟨bs, hb, hk⟩ := ReprAllK.of_readsAll (prog := prog) (w := w) h4 hs hm (fun t ht => Nat.le_trans (listText_mem_le ht) zl)
  have r0 : Reads s.heap (.ref a) (.list xs) (a :: as) := Reads.list h1 h2 h3 (by simpa using h4)
  have na : a ∉ bs := not_mem_of_deeper r0 (by simp only [PyData.depth]; omega) hb
  simp only [PyData.depth] at hu; simp only [PyData.shown] at hQ
  refine call_repr_slot (by omega) ⟨o, h1, h2⟩ F.slot_list_repr.toG ?_
  cases vs with
  | nil =>
    cases h4
    simp only [listText_nil, PyData.shownAll] at hQ
    exact call_list_repr_empty ⟨o, h1, h2⟩ h1 h3 ⟨_, _, rfl, hQ s.heap _ _ fun _ _ e => e⟩
  | cons x l =>
    exact call_list_reprK (h₀ := s.heap) h1 h2 h3 na (by simpa using hk.length_eq) (fun i y e => hk.item i y (by simpa using e)) hg (fun b _ => Clear.nil b) (by show A.units + 1 + (PyData.depthAll xs + 1) < cLine; omega) (fun _ _ e => e) (fun h' u tk k => ⟨_, _, rfl, hQ h' u tk k⟩) zl
/-- repr(xs), xs a list: things without dicts, or flat dicts alone -/
theorem call_reprL {X : Cx} (hg : X.A.guards = some []) (hu : X.A.units + 100 < cLine) : CallR X (.builtin "repr") (fun xs H Q => ∃ (a : Addr) (zs : List V) (ds : List PyData), xs = [.ref a] ∧ H a = some (.lst zs) ∧ TrAll H zs ds ∧ (PyData.hasDictAll ds = false ∨ ∀ d ∈ ds, flatDict d = true) ∧
    PyData.showableAll ds = true ∧ PyData.depthAll ds ≤ 60 ∧ (PyData.shown (.list ds)).length ≤ sizeLine ∧ Q (.str (PyData.shown (.list ds))) H) := by
  intro pz s σ H xs ua Q I r h
  obtain ⟨a, zs, ds, rfl, ha, al, hd, hs, hdep, hsz, q⟩ := h
  obtain rfl := Vals.ref1 r
  obtain ⟨_, its, n, rv, ho⟩ := (show ObjOk X.prog X.w H s.heap a (.lst zs) from I.hok a _ ha)
  have key : ∃ as, ReadsAll s.heap its ds as ∧ (PyData.hasDictAll ds = true → sysModules ∉ as) := by
    rcases hd with hd | hd
    · obtain ⟨as, q⟩ := TrAll.reads I al its rv
      exact ⟨as, q, fun z => by rw [hd] at z; cases z⟩
    · obtain ⟨as, q, nq⟩ := TrAll.flat I al hd its rv
      exact ⟨as, q, fun _ => nq⟩
  obtain ⟨as, q4, hm⟩ := key
  refine repr_listD ho rfl rfl q4 hs hm hg (by simp only [PyData.depth]; omega) hsz fun h' u tk k => ?_
  exact ⟨.str _, H, I.kept (t' := tk) k, ⟨u, rfl⟩, q⟩
end Pk
namespace Pk
open PySem L2
/-! ### written data: an expression that makes new things alone -/
/-- what of H' is new -/
def newP (H H' : Hp) : Hp := fun b => match H b with
  | none => H' b
  | some _ => none
theorem newP_at {H H' : Hp} {b : Addr} (h : H b = none) : newP H H' b = H' b := by
  unfold newP
  rw [h]
theorem newP_some {H H' : Hp} {b : Addr} {o : HO} (h : newP H H' b = some o) : H b = none ∧ H' b = some o := by
  unfold newP at h
  cases e : H b with
  | none =>
    rw [e] at h
    exact ⟨rfl, h⟩
  | some u =>
    rw [e] at h
    cases h
theorem newP_grow {H H1 H2 : Hp} (s : Same H1 H2) : Same (newP H H1) (newP H H2) := fun b o e => by
  obtain ⟨h1, h2⟩ := newP_some e
  rw [newP_at h1]
  exact s b o h2
theorem newP_back {H H1 H2 : Hp} (s : Same H H1) : Same (newP H1 H2) (newP H H2) := fun b o e => by
  obtain ⟨h1, h2⟩ := newP_some e
  rw [newP_at (s.free h1)]
  exact h2
theorem newP_all {H H' : Hp} : Same (newP H H') H' := fun b o e => (newP_some e).2
/-- new things are no place that was there -/
theorem newP_del {H H' : Hp} {p : Addr} {o : HO} (h : H p = some o) : Same (newP H H') (del H' p) := fun b u e => by
  obtain ⟨h1, h2⟩ := newP_some e
  rw [del_ne (fun z => by rw [z, h] at h1; cases h1)]
  exact h2
def tD (d : PyData) : TE := fun _ H Q => ∀ v H', Same H H' → Tr (newP H H') v d → Q v H'
def tDs (ds : List PyData) : TA := fun _ H Q => ∀ vs H', Same H H' → TrAll (newP H H') vs ds → Q vs H'
section
variable {X : Cx} {e : Expr} {es : List Expr} {d : PyData} {ds : List PyData} {pos p1 p2 : Pos} {j : Nat}
theorem peW {t t' : TE} (h : PE X e t) (f : ∀ σ H Q, t' σ H Q → t σ H Q) : PE X e t' := ⟨fun pz s σ H Q I q => h.run pz s σ H Q I (f σ H Q q)⟩
theorem paW {t t' : TA} (h : PA X es t) (f : ∀ σ H Q, t' σ H Q → t σ H Q) : PA X es t' := ⟨fun po pz s σ H Q I q => h.run po pz s σ H Q I (f σ H Q q)⟩
theorem pd_int {i : Int} (h : PE X e (tC (.int i))) : PE X e (tD (.int i)) := peW h fun _ H Q q => q _ H (Same.refl _) (.int i)
theorem pd_str {i : Str} (h : PE X e (tC (.str i))) : PE X e (tD (.str i)) := peW h fun _ H Q q => q _ H (Same.refl _) (.str i)
theorem pd_bl {i : Bool} (h : PE X e (tC (.bl i))) : PE X e (tD (.bool i)) := peW h fun _ H Q q => q _ H (Same.refl _) (.bl i)
theorem pd_non (h : PE X e (tC .non)) : PE X e (tD .none) := peW h fun _ H Q q => q _ H (Same.refl _) .non
theorem pd_nil : PA X [] (tDs []) := paW pa_nil fun _ H Q q => q [] H (Same.refl _) .nil
theorem pd_cons (h : PE X e (tD d)) (t : PA X es (tDs ds)) (hs : starEach (e :: es) X.env = (false, eval e X.env) :: starEach es X.env := by rfl) : PA X (e :: es) (tDs (d :: ds)) := by
  refine paW (pa_cons h t hs) fun σ H Q q => ?_
  intro v H1 s1 r1 vs H2 s2 r2
  exact q (v :: vs) H2 (s1.trans s2) (.cons (r1.same (newP_grow s2)) (r2.same (newP_back s1)))
theorem pd_tup {x1} (h : PA X es (tDs ds)) (hl : ds.length ≤ 1000 := by decide) : PE X (.Tuple es x1 pos) (tD (.tuple ds)) := by
  refine peW (pe_tup h) fun σ H Q q => ?_
  intro vs H1 s1 r1
  have e1 : vs.length ≤ sizeLine := Nat.le_of_lt (small1000 (by rw [r1.length]; exact hl))
  refine ⟨e1, fun p hp => ?_⟩
  have s2 := sameNew hp (.tup vs)
  refine q (.ref p) _ (s1.trans s2) (.tup ?_ (r1.same (newP_grow s2)))
  rw [newP_at (s1.free hp), upd_same]
theorem pd_lst (h : PA X es (tDs ds)) (hl : ds.length ≤ 1000 := by decide) : PE X (.List es pos) (tD (.list ds)) := by
  refine peW (pe_lst h) fun σ H Q q => ?_
  intro vs H1 s1 r1
  have e1 : vs.length ≤ sizeLine := Nat.le_of_lt (small1000 (by rw [r1.length]; exact hl))
  refine ⟨e1, fun p hp => ?_⟩
  have s2 := sameNew hp (.lst vs)
  refine q (.ref p) _ (s1.trans s2) (.lst ?_ (r1.same (newP_grow s2)))
  rw [newP_at (s1.free hp), upd_same]
theorem pd_d0 : PE X (.Dict [] [] pos) (tD (.dict [])) := by
  refine peW pe_dnewK fun σ H Q q => ?_
  intro p hp
  refine q (.ref p) _ (sameNew hp _) (.dct (kvs := []) ?_ List.nodup_nil rfl .nil)
  rw [newP_at hp, upd_same]
/-- {'a': 0} -/
theorem pd_d1 {k : Str} {i : Int} {po : Pos} {kx vx : Expr} (hk : PE X kx (tC (.str k))) (hv : PE X vx (tC (.int i))) : PE X (.Dict [some kx] [vx] po) (tD (.dict [(.str k, .int i)])) := by
  refine peW (pe_disp (pps_cons hk hv pps_nil) (by rfl) (by rfl) (fun z => by cases z) (by show 1 ≤ 15; decide)) fun σ H Q q => ?_
  intro p hp
  refine ⟨upd_same, [(Sum.inr k, .int i)], rfl, (by show 1 ≤ 15; decide), ?_⟩
  rw [upd_upd]
  refine q (.ref p) _ (sameNew hp _) (.dct (kvs := [(Sum.inr k, .int i)]) ?_ (by simp) rfl (.cons (.int i) .nil))
  rw [newP_at hp, upd_same]
  rfl
/-- 10 ** 18 and the like -/
theorem pd_pow {a b : Expr} {i k : Int} (ha : PE X a (tC (.int i))) (hb : PE X b (tC (.int k))) (h : CPow i k := by exact ⟨by decide, by decide, by decide⟩) : PE X (.BinOp a .Pow b pos) (tC (.int (i ^ k.toNat))) :=
  peW (pe_op op_pow ha hb) fun σ H Q q => ⟨_, _, rfl, rfl, h, q⟩
theorem pd_neg {a : Expr} {i : Int} (ha : PE X a (tC (.int i))) : PE X (.UnaryOp .USub a pos) (tC (.int (-i))) :=
  peW (pe_un un_neg ha) fun σ H Q q => ⟨_, rfl, q⟩
end
end Pk
namespace Pk
open PySem L2 PySem.Spec PyProof.Rows
/-! ### defs that are run where no text of a list is under way (for repr) -/
/-- the def at f keeps sp, where no repr is under way -/
structure FnG (P : Program) (w : World) (K : PySem.W.Frag) (mg : Str → Option Value) (bs : Heap) (k : Nat) (f : Addr) (fd : FuncData) (ps : List Str) (sp : Sp) : Prop where
  len : ∀ va H Q E, sp va H Q E → va.length = ps.length
  run : ∀ (A : Around) (out : List Env) (s : Shared) (H : Hp) (ar : Args) (ua : List Value) (va : List V) (Q : VK) (E : XK), A.guards = some [] → Room k A → Env0 P w K mg bs A out s H → BindsTo s fd ar (ps.zip ua) → Vals va ua → sp va H Q E →
    codeAny (model P w) A (.call (.ref f) ar) (CR CX0 out P w H s Q E) s
theorem Fun.okG {P : Program} {w : World} {K : PySem.W.Frag} {mg : Str → Option Value} {bs : Heap} {x ql : Str} {st : Stmt} {f : Addr} {fd : FuncData} {N ps : List Str} {k : Nat} {sp : Sp} (F : Fun K x ql st f fd) (S : FnScope N ps (defScope st)) (len : ∀ va H Q E, sp va H Q E → va.length = ps.length)
    (hbd : ∀ (cv : Value) (A : Around) (out : List Env) (s : Shared) (H : Hp) (va : List V) (Q : VK) (E : XK), A.guards = some [] → Room k (A.deeper (envOfC ql (defScope st) s.heap.objs.size f cv)) → sp va H Q E →
      ∃ t, PSs (cxOf CX0 P w K mg bs N ql (defScope st) f cv A out s H E).nox (defBody st) t ∧ t { nx := fun _ H' => Q .non H', rt := Q } (L2.start N va) H) : FnG P w K mg bs (k + 1) f fd ps sp := by
  obtain ⟨oc, oq, kV, doc, pm, an, cv, ct, osl, rfl, lk, hcd⟩ := F.ex
  refine ⟨len, fun A out s H ar ua va Q E hgd hr ez hbt rr hq => ?_⟩
  have hlen := len _ _ _ _ hq
  have inK : K.In s.heap := ez.mod.kin.keeps fun b o e => (ez.bs b o e).1
  have noL : s.heap.NoLimit := ez.mod.nolimit.keeps fun b o e => (ez.bs b o e).1
  refine codeAny_call_function hr.depth (inK _ _ lk) rfl S.co S.gen rfl (PySem.W.codeRec_of inK hcd) (hbt _ _ _ _ (wpAny_newFunctionEnv_cells S.kind (fun ⟨n, v⟩ hy => ?_) fun env he sz xx => ?_))
  · rcases S.par n (List.of_mem_zip hy).1 with z | z
    · exact .inl z
    · exact .inr ⟨z, PySem.W.cellsFrom_some _ _ _ (.inl z)⟩
  · subst he
    refine ⟨noL.keeps xx.toInCall.keep, codeAny_func ?_⟩
    obtain ⟨t, ht, hw⟩ := hbd cv A out s H va Q E hgd (hr.deeper _) hq
    have J : L2.Inv (cxOf CX0 P w K mg bs N ql (defScope st) f cv A out s H E) [] (L2.start N va) H sz := inv_start S hr.hd ez hlen rr xx
    refine wpAny_mono (ht.nox.run [] sz _ H _ J hw) (fun fl sy hy => ?_) fun e sy hy => hy
    cases fl with
    | ret u =>
      obtain ⟨v, σy, Hy, Jy, rv, qy⟩ := hy
      exact ⟨v, Hy, Jy.os, Jy.bare, Jy.base, Jy.hok, rv, qy⟩
    | next =>
      obtain ⟨σy, Hy, Jy, qy⟩ := hy
      exact ⟨.non, Hy, Jy.os, Jy.bare, Jy.base, Jy.hok, rfl, qy⟩
    | brk =>
      obtain ⟨_, _, _, qy⟩ := hy
      exact qy.elim
    | cont =>
      obtain ⟨_, _, _, qy⟩ := hy
      exact qy.elim
/-- f(e, ..) of such a def, where no repr is under way -/
theorem pe_callG {X : Cx} {k : Nat} {f : Addr} {fd : FuncData} {ps : List Str} {sp : Sp} {x : Str} {p pos : Pos} {e : Expr} {es : List Expr} {t : TA} (hgd : X.A.guards = some []) (G : FnG X.prog X.w X.K X.mg X.base k f fd ps sp) (hr : Room k X.A) (hg : Gl X x) (hm : X.mg x = some (.ref f)) (hk : PySem.W.keepIn X.K (.ref f) = true)
    (hb : Binds X.K fd ps []) (ha : PA X (e :: es) t) (hdg : (x == ("__debug__" : Str)) = false := by decide) (he : starEach (e :: es) X.env = (false, eval e X.env) :: starEach es X.env := by rfl) (hpz : (backTo pos (starEach es X.env)).any (·.1) = false := by rfl) :
    PE X (.Call (.Name x p) (e :: es) [] pos) (fun σ H Q => t σ H fun va Ha => sp va Ha Q fun _ _ _ => False) := by
  refine ⟨fun pz s σ H Q I hq => wpAny_Call_Name_kw (ld_glob I hg hm (PySem.W.callWith_K (h₀ := X.base) I.ok.mod.kin hk (thn (ha.run pos pz s σ H _ I hq) fun ua sa ⟨va, Ha, Ia, ra, qa⟩ => ⟨Ia.kIn, ?_⟩) he hpz) hdg)⟩
  have hlen : ua.length = ps.length := by
    rw [← ra.length]
    exact G.len _ _ _ _ qa
  have bt := hb sa ua Ia.kIn (by rw [List.append_nil]; exact hlen)
  rw [List.append_nil] at bt
  refine wpAny_call (codeAny_mono (G.run X.A X.stack sa Ha ⟨ua, []⟩ ua va Q (fun _ _ _ => False) hgd hr Ia.env0 bt ra qa) fun rr sy hy => ?_)
  cases rr with
  | error ee => exact hy.elim
  | ok fl =>
    cases fl with
    | ret u => exact Ia.after hy
    | next => exact hy.elim
    | brk => exact hy.elim
    | cont => exact hy.elim
/-- the law's call from outside: at the heap behind the top nothing but the script is tracked -/
theorem lawG {P : Program} {w : World} {K : PySem.W.Frag} {mg mb : Str → Option Value} {k : Nat} {fa a : Addr} {fd : FuncData} {x : Str} {sp : Sp} {sz : Shared} {va : List Value} {ns : List Int}
    (inK : K.In sz.heap) (hn : sz.heap.Ns mainGlobals mg) (hbn : sz.heap.Ns builtinsNs mb) (hbb : ∀ x : Str, x ≠ "__name__" → mb x = bootBuiltins x) (noL : sz.heap.NoLimit) (hgn : sz.gens = #[])
    (ha : sz.heap.get? a = some { cls := .type "list", data := .seq va.toArray }) (hi : IntsAre va ns) (hl : ns.length ≤ sizeLine) (hr : Room k callerA)
    (G : ∀ bs : Heap, K.In bs → bs.Ns mainGlobals mg → FnG P w K mg bs k fa fd [x] sp) (hbt : ∀ (s : Shared) (u : Value), BindsTo s fd ⟨[u], []⟩ [(x, u)])
    (hq : ∀ H : Hp, SqL K H a (ns.map V.int) → sp [.ref a] H (fun v _ => v = .bl true) fun _ _ _ => False) :
    codeAny (model P w) callerA (.call (.ref fa) ⟨[.ref a], []⟩) (fun r s' => r = .ok (.ret (.bool true)) ∧ OldK sz.heap s'.heap ∧ s'.os = sz.os ∧ AllBare s'.gens) sz := by
  have rr := vals_ints hi
  have ln := hi.length
  have main : ∀ H : Hp, L2.Only H → SqL K H a (ns.map V.int) → HOk P w H sz.heap → (∀ b, H b ≠ none → b = a) → (H a ≠ none → K.lookup a = none) →
      codeAny (model P w) callerA (.call (.ref fa) ⟨[.ref a], []⟩) (fun r s' => r = .ok (.ret (.bool true)) ∧ OldK sz.heap s'.heap ∧ s'.os = sz.os ∧ AllBare s'.gens) sz := by
    intro H only hS hok hA hK
    have isA : ∀ {b : Addr} {u : HO}, H b = some u → b = a := fun {b u} z => hA b (by rw [z]; simp)
    have free : ∀ {b : Addr} {o : Obj} {es : Array DictEntry} {ep : Nat}, sz.heap.get? b = some o → o.data = .dict es ep → H b = none := fun {b o es ep} e d => by
      cases z : H b with
      | none => rfl
      | some u =>
        have eb := isA z
        subst eb
        rw [ha] at e
        cases e
        cases (show Data.seq va.toArray _ = Data.dict es ep from d)
    have nsB : ∀ {b : Addr} {m : Str → Option Value}, sz.heap.Ns b m → (hidT sz.heap H).Ns b m := fun {b m} ⟨o, es, ep, e, d, z⟩ => ⟨o, es, ep, hidT_get e (free e d), d, z⟩
    have kB : K.In (hidT sz.heap H) := fun b o e => hidT_get (inK b o e) (by
      cases z : H b with
      | none => rfl
      | some u =>
        have eb := isA z
        subst eb
        rw [hK (by rw [z]; simp)] at e
        cases e)
    have md : Mod K mg (hidT sz.heap H) := ⟨kB, nsB hn, ⟨mb, nsB hbn, hbb⟩, let ⟨mc, z1, z2⟩ := noL; ⟨mc, nsB z1, z2⟩⟩
    have ez : Env0 P w K mg (hidT sz.heap H) callerA [] sz H := ⟨rfl, md, fun b o e => of_hidT e, Nat.le_of_eq (hidT_size _ _), trivial, fun b hb => absurd (show b ∈ ([] : List Addr) from hb) (by simp), hok, .of_eq hgn⟩
    refine codeAny_mono ((G _ kB (nsB hn)).run callerA [] sz H ⟨[.ref a], []⟩ [.ref a] [.ref a] _ _ rfl hr ez (hbt sz (.ref a)) (.cons rfl .nil) (hq H hS)) fun rz sy hy => ?_
    cases rz with
    | error e => exact hy.elim
    | ok fl =>
      cases fl with
      | next => exact hy.elim
      | brk => exact hy.elim
      | cont => exact hy.elim
      | ret u =>
        obtain ⟨v, Hy, osy, bry, un, oky, rv, qy⟩ := hy
        cases (show v = .bl true from qy)
        cases (show u = Value.bool true from rv)
        refine ⟨rfl, OldK.of_keep fun b o e => ?_, osy, bry⟩
        cases z : H b with
        | none => exact un.keep b o e z (fun q => absurd (show b ∈ ([] : List Addr) from q) (by simp)) (by simp)
        | some u =>
          rcases only b with q | ⟨ob, xs, q⟩
          · rw [z] at q
            cases q
          · obtain ⟨g1, _⟩ := hok b _ q
            obtain ⟨g2, _⟩ := oky b _ (un.frzs b ob _ q)
            rw [e] at g1
            cases g1
            exact g2
  cases hk : K.lookup a with
  | some o =>
    have e := inK a o hk
    rw [ha] at e
    cases e
    exact main (fun _ => none) (fun _ => .inl rfl) (.inr ⟨_, va.toArray, _, hk, rfl, rfl, rfl, by rw [List.size_toArray, ln]; exact hl, by simpa using rr⟩) (fun b u z => by cases (show (none : Option HO) = some u from z)) (fun b z => absurd rfl z) fun z => absurd rfl z
  | none =>
    refine main (fun b => if b = a then some (.frz { cls := .type "list", data := .seq va.toArray } (.lst (ns.map V.int))) else none) (fun b => ?_) (.inl (.inr ⟨{ cls := .type "list", data := .seq va.toArray }, if_pos rfl⟩)) (fun b u z => ?_) (fun b z => ?_) fun _ => hk
    · by_cases hb : b = a
      · right; exact ⟨_, _, if_pos hb⟩
      · exact .inl (if_neg hb)
    · by_cases hb : b = a
      · cases (if_pos hb).symm.trans z
        subst hb
        exact ⟨ha, by rw [List.length_map]; exact hl, va, _, rr, ha⟩
      · cases (if_neg hb).symm.trans z
    · by_cases hb : b = a
      · exact hb
      · exact absurd (if_neg hb) z
/-- the goal that the head leaves, from the law's promise -/
theorem walkG {l : PySem.W.OpenLaw} {n k : Nat} {q : Program} {loose : List Str} {XP : (Str → Option Value) → Heap → Prop} {YP : World → Heap → Prop} {d : DefRec} {K : Params → PySem.W.Frag} {sp : PySem.W.Frag → Sp} {x : Str}
    (hr : Room k callerA) (hn : l.most = some n) (hn2 : n ≤ sizeLine) (hdf : d.params.defaults = []) (hY : ∀ (w : World) (h : Heap), YP w h → (K w.params).In h)
    (G : ∀ (w : World) (mg : Str → Option Value) (fa : Addr) (h : Heap), (K w.params).In h → h.Ns mainGlobals mg → mg d.name = some (.ref fa) →
      ∃ fd : FuncData, (∀ (s : Shared) (u : Value), BindsTo s fd ⟨[u], []⟩ [(x, u)]) ∧ ∀ bs : Heap, (K w.params).In bs → bs.Ns mainGlobals mg → FnG l.prog w (K w.params) mg bs k fa fd [x] (sp (K w.params)))
    (hq : ∀ (K : PySem.W.Frag) (H : Hp) (a : Addr) (ns : List Int), ns.length ≤ n → SqL K H a (ns.map V.int) → sp K [.ref a] H (fun v _ => v = .bl true) fun _ _ _ => False) :
    PySem.W.WalkO q loose XP YP l.row.toRowW d [] (fun f va => PySem.call f va) := by
  refine Att.attach_call hn hdf fun w sy sz mg mb fa o pm cd doc a va ns Gr Y ho hd hcd hmg hob hin hle hgn => ?_
  have inK := hY w _ Y
  obtain ⟨fd, hbt, hG⟩ := G w mg fa _ inK Gr.T.g hmg
  exact lawG inK Gr.T.g Gr.T.b Gr.T.builtins Gr.T.nolimit hgn hob hin (Nat.le_trans hle hn2) hr hG hbt fun H hS => hq _ H a ns hle hS
end Pk
/-! a dict is no text -/
namespace Pk
open PySem PySem.SeqAt PySem.MeetsSeq PySem.AutoSeq1
theorem strNoDict (b : Str) (u : Tok) (l : Addr) (es : Array DictEntry) (n : Nat) (dd : Option Addr) (sl : Array (Option Value)) :
    Meets (Builtin.«str.__eq__» ⟨[.str b u, .ref l], []⟩) (fun _ R s => s.heap.get? l = some { cls := .type "dict", dict := dd, data := .dict es n, slots := sl } ∧ R (.ok (.ret .notImplemented)) s) :=
  .of_wp fun prog w A R s h => by
    obtain ⟨hp, g, d, tk, os⟩ := s
    obtain ⟨hl, h⟩ := h
    wp_walk using wpAny_loadPart' hl, wpAny_load hl
    exact ⟨_, rfl, h⟩
theorem dictNoStr (b : Str) (u : Tok) (l : Addr) (es : Array DictEntry) (n : Nat) (dd : Option Addr) (sl : Array (Option Value)) :
    Meets (Builtin.«dict.__eq__» ⟨[.ref l, .str b u], []⟩) (fun _ R s => s.heap.get? l = some { cls := .type "dict", dict := dd, data := .dict es n, slots := sl } ∧ R (.ok (.ret .notImplemented)) s) :=
  .of_wp fun prog w A R s h => by
    obtain ⟨hp, g, d, tk, os⟩ := s
    obtain ⟨hl, h⟩ := h
    wp_walk using wpAny_loadPart' hl, wpAny_load hl
    refine wpAny_of_eq (a := false) F.sub_str_dict ?_
    wp_walk using wpAny_loadPart' hl, wpAny_load hl
    exact ⟨_, rfl, h⟩
section
variable {A : Around} {s : Shared}
theorem rcStrDict {l : Addr} {es : Array DictEntry} {n : Nat} {dd : Option Addr} {sl : Array (Option Value)} (b : Str) (u : Tok) (hl : s.heap.get? l = some { cls := .type "dict", dict := dd, data := .dict es n, slots := sl }) (hu : A.units < cLine) : RcAt A s (.str b u) (.ref l) false := fun prog w E Q h =>
  rc_eq_decline_or (k := false) (typeIs_str s b u) ⟨_, hl, rfl⟩ (by decide) F.sub_dict_str F.slot_str_eq F.slot_dict_eq_refl
    (fun _ q => call_meets F.slot_str_eq (typeIs_str s b u) F.entry_str_eq (F.args_str_eq_2 _ _) (strNoDict b u l es n dd sl) ⟨hl, q⟩)
    (fun _ q => call_meets F.slot_dict_eq_refl ⟨_, hl, rfl⟩ F.entry_dict_eq (F.args_dict_eq_2 _ _) (dictNoStr b u l es n dd sl) ⟨hl, q⟩)
    (fun _ q => wpAny_of_eq (rfl : isSame (.str b u) (.ref l) = pure false) q) (.inr hu) h
theorem rcDictStr {l : Addr} {es : Array DictEntry} {n : Nat} {dd : Option Addr} {sl : Array (Option Value)} (b : Str) (u : Tok) (hl : s.heap.get? l = some { cls := .type "dict", dict := dd, data := .dict es n, slots := sl }) (hu : A.units < cLine) : RcAt A s (.ref l) (.str b u) false := fun prog w E Q h =>
  rc_eq_decline_or (k := false) ⟨_, hl, rfl⟩ (typeIs_str s b u) (by decide) F.sub_str_dict F.slot_dict_eq F.slot_str_eq_refl
    (fun _ q => call_meets F.slot_dict_eq ⟨_, hl, rfl⟩ F.entry_dict_eq (F.args_dict_eq_2 _ _) (dictNoStr b u l es n dd sl) ⟨hl, q⟩)
    (fun _ q => call_meets F.slot_str_eq_refl (typeIs_str s b u) F.entry_str_eq (F.args_str_eq_2 _ _) (strNoDict b u l es n dd sl) ⟨hl, q⟩)
    (fun _ q => wpAny_of_eq (rfl : isSame (.ref l) (.str b u) = pure false) q) (.inr hu) h
theorem eqStrDict {l : Addr} {es : Array DictEntry} {n : Nat} {dd : Option Addr} {sl : Array (Option Value)} (b : Str) (u : Tok) (hl : s.heap.get? l = some { cls := .type "dict", dict := dd, data := .dict es n, slots := sl }) (hu : A.units < cLine) : EqAt A s (.str b u) (.ref l) false := fun prog w E Q h => by
  unfold eqBool
  exact wpAny_holding (wpAny_ite_split (fun hab => absurd (eq_of_beq hab) nofun) fun _ => wpAny_bind (rcStrDict b u hl hu prog w E _ (wpAny_truthy_bool h)))
end
end Pk
namespace Pk
open PySem L2
/-- the data is this text -/
def strIs (y : Str) : PyData → Bool
  | .str z => y == z
  | _ => false
section
variable {X : Cx} {pz : List (Addr × Obj)} {σ : L2.St} {H : Hp} {s : Shared} {A : Around} {x : V} {d : PyData} {v : Value}
theorem Tr.eqStr (I : L2.Inv X pz σ H s) (t : Tr H x d) (r : RelV x v) (hu : A.units < cLine) (y : Str) (u : Tok) : SeqAt.EqAt A s (.str y u) v (strIs y d) := by
  cases t with
  | non => cases (show v = .none from r); exact SeqAt.EqAt.str_none y u
  | bl b => cases (show v = .bool b from r); exact SeqAt.EqAt.str_bool y u b
  | int i => obtain ⟨k, e⟩ := (show ∃ k, v = .int i k from r); cases e; exact SeqAt.EqAt.str_int y u i k
  | str z => obtain ⟨k, e⟩ := (show ∃ k, v = .str z k from r); cases e; exact SeqAt.EqAt.str_str y u z k
  | @lst a xs ds h al =>
    cases (show v = .ref a from r)
    obtain ⟨_, its, n, rv, ho⟩ := (show ObjOk X.prog X.w H s.heap a (.lst xs) from I.hok a _ h)
    exact SeqAt.EqAt.str_list y u ⟨_, ho, rfl, n, rfl⟩ hu
  | @tup a xs ds h al =>
    cases (show v = .ref a from r)
    obtain ⟨_, its, rv, ho⟩ := (show ObjOk X.prog X.w H s.heap a (.tup xs) from I.hok a _ h)
    exact SeqAt.EqAt.str_tuple y u ho hu
  | @dct a kvs es h nd ek al =>
    cases (show v = .ref a from r)
    obtain ⟨_, _, vs, rel, ⟨oc, od, odt, osl⟩, des, ep, ho, hx, hd, _⟩ := (show ObjOk X.prog X.w H s.heap a (.dK kvs) from I.hok a _ h)
    obtain ⟨x1, x2, x3⟩ := hx
    dsimp only at x1 x2 x3 hd
    subst x1 x2 x3 hd
    exact eqStrDict y u ho hu
theorem Tr.rcStr (I : L2.Inv X pz σ H s) (t : Tr H x d) (r : RelV x v) (hu : A.units < cLine) (y : Str) (u : Tok) : SeqAt.RcAt A s v (.str y u) (strIs y d) := by
  cases t with
  | non => cases (show v = .none from r); exact SeqAt.RcAt.none_str y u
  | bl b => cases (show v = .bool b from r); exact SeqAt.RcAt.bool_str b y u
  | int i => obtain ⟨k, e⟩ := (show ∃ k, v = .int i k from r); cases e; exact SeqAt.RcAt.int_str i k y u
  | str z =>
    obtain ⟨k, e⟩ := (show ∃ k, v = .str z k from r)
    cases e
    have q := SeqAt.RcAt.str_str (A := A) (s := s) z k y u
    have e : strIs y (.str z) = (z == y) := by
      show (y == z) = (z == y)
      by_cases h : y = z
      · subst h; rfl
      · rw [beq_eq_false_iff_ne.mpr h, beq_eq_false_iff_ne.mpr (Ne.symm h)]
    rw [e]
    exact q
  | @lst a xs ds h al =>
    cases (show v = .ref a from r)
    obtain ⟨_, its, n, rv, ho⟩ := (show ObjOk X.prog X.w H s.heap a (.lst xs) from I.hok a _ h)
    exact SeqAt.RcAt.list_str y u ⟨_, ho, rfl, n, rfl⟩ hu
  | @tup a xs ds h al =>
    cases (show v = .ref a from r)
    obtain ⟨_, its, rv, ho⟩ := (show ObjOk X.prog X.w H s.heap a (.tup xs) from I.hok a _ h)
    exact SeqAt.RcAt.tuple_str y u ho hu
  | @dct a kvs es h nd ek al =>
    cases (show v = .ref a from r)
    obtain ⟨_, _, vs, rel, ⟨oc, od, odt, osl⟩, des, ep, ho, hx, hd, _⟩ := (show ObjOk X.prog X.w H s.heap a (.dK kvs) from I.hok a _ h)
    obtain ⟨x1, x2, x3⟩ := hx
    dsimp only at x1 x2 x3 hd
    subst x1 x2 x3 hd
    exact rcDictStr y u ho hu
end
section
variable {X : Cx}
/-- x == 'text', x any data -/
theorem op_eqS (hu : X.A.units + 1 < cLine) : OpR X (compareOp .Eq) (fun x y H Q => ∃ d z, Tr H x d ∧ y = .str z ∧ Q (.bl (strIs z d)) H) := by
  intro pz s σ H x y v u Q I rx ry h
  obtain ⟨d, z, t, rfl, q⟩ := h
  obtain ⟨k, e⟩ := (show ∃ k, u = .str z k from ry)
  cases e
  exact t.rcStr I rx (by omega) z k X.prog X.w X.xe _ ⟨.bl _, H, I, rfl, q⟩
theorem anyStr {e : Value → Bool} {f : Str → Bool} (h : ∀ z k, e (.str z k) = f z) : ∀ {zs : List Str} {us : List Value}, Vals (zs.map V.str) us → us.any e = zs.any f
  | [], _, .nil => rfl
  | z :: zs, _, .cons r t => by
    obtain ⟨k, e1⟩ := (show ∃ k, _ = Value.str z k from r)
    cases e1
    rw [List.any_cons, List.any_cons, h, anyStr h t]
/-- a text's sake: the answer of a text beside the data -/
def isS (d : PyData) : Value → Bool
  | .str z _ => strIs z d
  | _ => false
theorem memStr {zs : List Str} {us : List Value} (r : Vals (zs.map V.str) us) {y : Value} (h : y ∈ us) : ∃ z k, y = .str z k := by
  induction zs generalizing us with
  | nil => cases r; cases h
  | cons z zs ih =>
    cases r with
    | cons r t =>
      rcases List.mem_cons.mp h with e | h
      · subst e
        obtain ⟨k, e1⟩ := (show ∃ k, y = Value.str z k from r)
        exact ⟨z, k, e1⟩
      · exact ih t h
/-- x in (texts), x any data -/
theorem op_inS (hu : X.A.units + 1 < cLine) : OpR X (compareOp .In) (fun x y H Q => ∃ (d : PyData) (a : Addr) (zs : List Str), Tr H x d ∧ y = .ref a ∧ (SqL X.K H a (zs.map V.str) ∨ SqT X.K H a (zs.map V.str)) ∧ Q (.bl (zs.any fun z => strIs z d)) H) := by
  intro pz s σ H x y v u Q I rx ry h
  obtain ⟨d, a, zs, t, rfl, hs, q⟩ := h
  cases (show u = .ref a from ry)
  rcases hs with hs | hs
  · obtain ⟨its, rv, pl, _⟩ := I.list hs
    refine SeqAt.in_listAt (isS d) pl.isList (fun y hy => ?_) ⟨.bl _, H, I, ?_, q⟩
    · obtain ⟨z, k, rfl⟩ := memStr rv (by simpa using hy)
      exact t.eqStr I rx (by show X.A.units + 1 < cLine; omega) z k
    · show Value.bool _ = Value.bool _
      rw [List.any_toArray, anyStr (e := isS d) (f := fun z => strIs z d) (fun _ _ => rfl) rv]
  · obtain ⟨its, rv, pl, _⟩ := I.tuple hs
    refine SeqAt.in_tupleAt (isS d) pl (fun y hy => ?_) ⟨.bl _, H, I, ?_, q⟩
    · obtain ⟨z, k, rfl⟩ := memStr rv (by simpa using hy)
      exact t.eqStr I rx (by show X.A.units + 1 < cLine; omega) z k
    · show Value.bool _ = Value.bool _
      rw [List.any_toArray, anyStr (e := isS d) (f := fun z => strIs z d) (fun _ _ => rfl) rv]
theorem op_notInS (hu : X.A.units + 1 < cLine) : OpR X (compareOp .NotIn) (fun x y H Q => ∃ (d : PyData) (a : Addr) (zs : List Str), Tr H x d ∧ y = .ref a ∧ (SqL X.K H a (zs.map V.str) ∨ SqT X.K H a (zs.map V.str)) ∧ Q (.bl (!zs.any fun z => strIs z d)) H) := by
  intro pz s σ H x y v u Q I rx ry h
  obtain ⟨d, a, zs, t, rfl, hs, q⟩ := h
  cases (show u = .ref a from ry)
  rcases hs with hs | hs
  · obtain ⟨its, rv, pl, _⟩ := I.list hs
    refine SeqAt.notIn_listAt (isS d) pl.isList (fun y hy => ?_) ⟨.bl _, H, I, ?_, q⟩
    · obtain ⟨z, k, rfl⟩ := memStr rv (by simpa using hy)
      exact t.eqStr I rx (by show X.A.units + 1 < cLine; omega) z k
    · show Value.bool _ = Value.bool _
      rw [List.any_toArray, anyStr (e := isS d) (f := fun z => strIs z d) (fun _ _ => rfl) rv]
  · obtain ⟨its, rv, pl, _⟩ := I.tuple hs
    refine SeqAt.notIn_tupleAt (isS d) pl (fun y hy => ?_) ⟨.bl _, H, I, ?_, q⟩
    · obtain ⟨z, k, rfl⟩ := memStr rv (by simpa using hy)
      exact t.eqStr I rx (by show X.A.units + 1 < cLine; omega) z k
    · show Value.bool _ = Value.bool _
      rw [List.any_toArray, anyStr (e := isS d) (f := fun z => strIs z d) (fun _ _ => rfl) rv]
end
end Pk
/-! ### repr of any data -/
namespace Pk
open PySem L2 PySem.Spec PyProof.Rows
section
variable {X : Cx} {pz : List (Addr × Obj)} {σ : L2.St} {H : Hp} {s : Shared}
mutual
theorem Tr.reprK (I : L2.Inv X pz σ H s) : ∀ {x : V} {d : PyData}, Tr H x d → ∀ v : Value, RelV x v → d.showable = true → d.shown.length ≤ sizeLine → ∃ bs, ReadAtMost s.heap d.depth bs ∧ ReprK X.prog X.w bs s.heap d.depth v d.shown
  | _, _, .non, v, r, _, _ => by
    cases (show v = .none from r)
    exact ⟨[], (fun _ h => nomatch h), by simp only [PyData.shown]; exact .of_is ReprIs.none _ _ _⟩
  | _, _, .bl b, v, r, _, _ => by
    cases (show v = .bool b from r)
    exact ⟨[], (fun _ h => nomatch h), by simp only [PyData.shown]; exact .of_is (ReprIs.bool b) _ _ _⟩
  | _, _, .int i, v, r, hs, _ => by
    obtain ⟨k, e⟩ := (show ∃ k, v = .int i k from r)
    cases e
    exact ⟨[], (fun _ h => nomatch h), by simp only [PyData.shown]; exact .of_is (ReprIs.int k (by simpa [PyData.showable] using hs)) _ _ _⟩
  | _, _, .str z, v, r, _, hz => by
    obtain ⟨k, e⟩ := (show ∃ k, v = .str z k from r)
    cases e
    exact ⟨[], (fun _ h => nomatch h), by simp only [PyData.shown]; exact .of_is (ReprIs.str z k (by simpa only [PyData.shown] using hz)) _ _ _⟩
  | _, _, @Tr.lst _ a xs ds h al, v, r, hs, hz => by
    cases (show v = .ref a from r)
    obtain ⟨_, its, n, rv, ho⟩ := (show ObjOk X.prog X.w H s.heap a (.lst xs) from I.hok a _ h)
    have zl : (listText (PyData.shownAll ds)).length ≤ sizeLine := by simpa only [PyData.shown] using hz
    obtain ⟨bs, hb, hk⟩ := TrAll.reprK I al its rv (by simpa [PyData.showable] using hs) (fun t ht => Nat.le_trans (listText_mem_le ht) zl)
    obtain ⟨as, r4⟩ := TrAll.reads I al its rv
    have r0 : Reads s.heap (.ref a) (.list ds) _ := .list ho rfl rfl (by simpa using r4)
    have na : a ∉ bs := not_mem_of_deeper r0 (by simp only [PyData.depth]; omega) hb
    refine ⟨a :: bs, ReadAtMost.cons r0 (by simp only [PyData.depth]; omega) hb, ?_⟩
    simp only [PyData.depth, PyData.shown]
    cases its with
    | nil =>
      cases r4
      simp only [PyData.shownAll, listText_nil]
      exact ReprK.listEmpty ho rfl rfl
    | cons y l => exact ReprK.list ho rfl rfl na (by simpa using hk.length_eq) (fun i y e => hk.item i y (by simpa using e))
  | _, _, @Tr.tup _ a xs ds h al, v, r, hs, hz => by
    cases (show v = .ref a from r)
    obtain ⟨_, its, rv, o, ho, hc, n, hd⟩ := (show ObjOk X.prog X.w H s.heap a (.tup xs) from I.hok a _ h)
    have zl : (tupleText (PyData.shownAll ds)).length ≤ sizeLine := by simpa only [PyData.shown] using hz
    obtain ⟨bs, hb, hk⟩ := TrAll.reprK I al its rv (by simpa [PyData.showable] using hs) (fun t ht => Nat.le_trans (tupleText_mem_le ht) zl)
    obtain ⟨as, r4⟩ := TrAll.reads I al its rv
    have r0 : Reads s.heap (.ref a) (.tuple ds) _ := .tuple ho hc hd (by simpa using r4)
    have na : a ∉ bs := not_mem_of_deeper r0 (by simp only [PyData.depth]; omega) hb
    refine ⟨a :: bs, ReadAtMost.cons r0 (by simp only [PyData.depth]; omega) hb, ?_⟩
    simp only [PyData.depth, PyData.shown]
    exact ReprK.tuple ho hc hd na (by simpa using hk)
  | _, _, @Tr.dct _ a kvs es h nd ek al, v, r, hs, hz => by
    cases (show v = .ref a from r)
    obtain ⟨_, hsys, vs, rel, o, des, ep, ho, hx, hd, _, pr, _⟩ := (show ObjOk X.prog X.w H s.heap a (.dK kvs) from I.hok a _ h)
    have zl : (dictText (PyData.shownKv es)).length ≤ sizeLine := by simpa only [PyData.shown] using hz
    obtain ⟨hs1, hs2⟩ := PyData.showableKv_split es (by simpa [PyData.showable] using hs)
    have r1 : ReadsAll s.heap (des.toList.map (·.key)) (es.map (·.1)) [] := by rw [ek]; exact reads_keys pr rel
    obtain ⟨b1, hb1, k1⟩ := ReprAllK.of_readsAll (prog := X.prog) (w := X.w) r1 hs1 (fun _ z => by cases z) (fun t ht => let ⟨p, hp, hl⟩ := PyData.shownKv_key_le es t ht; Nat.le_trans hl (Nat.le_trans (dictText_mem_le hp) zl))
    obtain ⟨b2, hb2, k2⟩ := TrAll.reprK I al _ (vals_of_pairs pr rel) hs2 (fun t ht => let ⟨p, hp, hl⟩ := PyData.shownKv_val_le es t ht; Nat.le_trans hl (Nat.le_trans (dictText_mem_le hp) zl))
    obtain ⟨as, r2⟩ := TrAll.reads I al _ (vals_of_pairs pr rel)
    have r0 : Reads s.heap (.ref a) (.dict es) _ := .dict ho hx.1 hd r1 r2
    have hb : ReadAtMost s.heap (PyData.depthKv es) (b1 ++ b2) := (hb1.mono (PyData.depthAll_keys_le es)).append (hb2.mono (PyData.depthAll_vals_le es))
    have na : a ∉ b1 ++ b2 := not_mem_of_deeper r0 (by simp only [PyData.depth]; omega) hb
    refine ⟨a :: (b1 ++ b2), ReadAtMost.cons r0 (by simp only [PyData.depth]; omega) hb, ?_⟩
    simp only [PyData.depth, PyData.shown, PyData.shownKv_eq]
    exact ReprK.dict ho hx.1 hd hsys na (ReprEntriesK.of_two des.toList _ _ (k1.more_le (fun b hb => List.mem_append_left _ hb) (PyData.depthAll_keys_le es)) (k2.more_le (fun b hb => List.mem_append_right _ hb) (PyData.depthAll_vals_le es)))
theorem TrAll.reprK (I : L2.Inv X pz σ H s) : ∀ {xs : List V} {ds : List PyData}, TrAll H xs ds → ∀ us : List Value, Vals xs us → PyData.showableAll ds = true → (∀ t ∈ PyData.shownAll ds, t.length ≤ sizeLine) →
    ∃ bs, ReadAtMost s.heap (PyData.depthAll ds) bs ∧ ReprAllK X.prog X.w bs s.heap (PyData.depthAll ds) us (PyData.shownAll ds)
  | _, _, .nil, us, r, _, _ => by
    cases r
    exact ⟨[], (fun _ h => nomatch h), by simp only [PyData.shownAll]; exact .nil⟩
  | _, _, @TrAll.cons _ x xs d ds h t, us, r, hs, hz => by
    cases r with
    | cons ra rb =>
      have hs' : d.showable = true ∧ PyData.showableAll ds = true := by simpa [PyData.showableAll] using hs
      obtain ⟨b1, hb1, k1⟩ := Tr.reprK I h _ ra hs'.1 (hz _ (by simp only [PyData.shownAll]; exact List.mem_cons_self ..))
      obtain ⟨b2, hb2, k2⟩ := TrAll.reprK I t _ rb hs'.2 (fun y hy => hz y (by simp only [PyData.shownAll]; exact List.mem_cons_of_mem _ hy))
      refine ⟨b1 ++ b2, ?_, ?_⟩
      · simp only [PyData.depthAll]
        exact (hb1.mono (Nat.le_max_left _ _)).append (hb2.mono (Nat.le_max_right _ _))
      · simp only [PyData.depthAll, PyData.shownAll]
        exact .cons ((k1.more fun b hb => List.mem_append_left _ hb).level_le (Nat.le_max_left _ _)) (k2.more_le (fun b hb => List.mem_append_right _ hb) (Nat.le_max_right _ _))
end
end
end Pk
namespace Pk
open PySem L2 PySem.Spec PyProof.Rows
/-- repr(x), x any data -/
theorem call_reprT {X : Cx} (hg : X.A.guards = some []) (hu : X.A.units + 100 < cLine) : CallR X (.builtin "repr") (fun xs H Q => ∃ (x : V) (d : PyData), xs = [x] ∧ Tr H x d ∧ d.showable = true ∧ d.depth ≤ 60 ∧ d.shown.length ≤ sizeLine ∧ Q (.str d.shown) H) := by
  intro pz s σ H xs us Q I r h
  obtain ⟨x, d, rfl, t, hs, hdep, hz, q⟩ := h
  cases r with
  | cons r1 r2 =>
  cases r2
  rename_i v
  have fin : ∀ (h' : Heap) (u tk : Tok), (∀ b o, s.heap.get? b = some o → h'.get? b = some o) → EP X pz σ Q (.str d.shown u) { s with heap := h', toks := tk } := fun h' u tk k => ⟨.str _, H, I.kept (t' := tk) k, ⟨u, rfl⟩, q⟩
  have fin0 : ∀ (u tk : Tok), EP X pz σ Q (.str d.shown u) { s with toks := tk } := fun u tk => fin s.heap u tk fun _ _ e => e
  cases t with
  | non =>
    cases (show v = .none from r1)
    simp only [PyData.shown] at fin0
    exact P.repr_of_none (fin0 _ _)
  | bl b =>
    cases (show v = .bool b from r1)
    simp only [PyData.shown] at fin0
    exact P.repr_of_bool (fin0 _ _)
  | int i =>
    obtain ⟨k, e⟩ := (show ∃ k, v = .int i k from r1)
    cases e
    simp only [PyData.shown] at fin0
    exact P.repr_of_int (by simpa [PyData.showable] using hs) (fin0 _ _)
  | str z =>
    obtain ⟨k, e⟩ := (show ∃ k, v = .str z k from r1)
    cases e
    simp only [PyData.shown] at fin0 hz
    exact P.repr_of_str (fin0 _ _) hz
  | @lst a xs ds h al =>
    cases (show v = .ref a from r1)
    obtain ⟨_, its, n, rv, ho⟩ := (show ObjOk X.prog X.w H s.heap a (.lst xs) from I.hok a _ h)
    have zl : (listText (PyData.shownAll ds)).length ≤ sizeLine := by simpa only [PyData.shown] using hz
    obtain ⟨bs, hb, hk⟩ := TrAll.reprK I al its rv (by simpa [PyData.showable] using hs) (fun t ht => Nat.le_trans (listText_mem_le ht) zl)
    obtain ⟨as, r4⟩ := TrAll.reads I al its rv
    have r0 : Reads s.heap (.ref a) (.list ds) _ := .list ho rfl rfl (by simpa using r4)
    have na : a ∉ bs := not_mem_of_deeper r0 (by simp only [PyData.depth]; omega) hb
    simp only [PyData.depth] at hdep
    simp only [PyData.shown] at fin
    refine call_repr_slot (by omega) ⟨_, ho, rfl⟩ F.slot_list_repr.toG ?_
    cases its with
    | nil =>
      cases r4
      simp only [listText_nil, PyData.shownAll] at fin
      exact call_list_repr_empty ⟨_, ho, rfl⟩ ho rfl ⟨_, _, rfl, fin s.heap _ _ fun _ _ e => e⟩
    | cons y l =>
      exact call_list_reprK (h₀ := s.heap) ho rfl rfl na (by simpa using hk.length_eq) (fun i y e => hk.item i y (by simpa using e)) hg (fun b _ => Clear.nil b) (by show X.A.units + 1 + (PyData.depthAll ds + 1) < cLine; omega) (fun _ _ e => e) (fun h' u tk k => ⟨_, _, rfl, fin h' u tk k⟩) zl
  | @tup a xs ds h al =>
    cases (show v = .ref a from r1)
    obtain ⟨_, its, rv, o, ho, hc, n, hd⟩ := (show ObjOk X.prog X.w H s.heap a (.tup xs) from I.hok a _ h)
    have zl : (tupleText (PyData.shownAll ds)).length ≤ sizeLine := by simpa only [PyData.shown] using hz
    obtain ⟨bs, hb, hk⟩ := TrAll.reprK I al its rv (by simpa [PyData.showable] using hs) (fun t ht => Nat.le_trans (tupleText_mem_le ht) zl)
    obtain ⟨as, r4⟩ := TrAll.reads I al its rv
    have r0 : Reads s.heap (.ref a) (.tuple ds) _ := .tuple ho hc hd (by simpa using r4)
    have na : a ∉ bs := not_mem_of_deeper r0 (by simp only [PyData.depth]; omega) hb
    simp only [PyData.depth] at hdep
    simp only [PyData.shown] at fin
    refine call_repr_slot (by omega) ⟨_, ho, hc⟩ F.slot_tuple_repr ?_
    exact call_tuple_reprK (h₀ := s.heap) ho hc hd na (by simpa using hk) hg (fun b _ => Clear.nil b) (by show X.A.units + 1 + (PyData.depthAll ds + 1) < cLine; omega) (fun _ _ e => e) (fun h' u tk k => ⟨_, _, rfl, fin h' u tk k⟩) zl
  | @dct a kvs es h nd ek al =>
    cases (show v = .ref a from r1)
    obtain ⟨_, hsys, vs, rel, o, des, ep, ho, hx, hd, _, pr, _⟩ := (show ObjOk X.prog X.w H s.heap a (.dK kvs) from I.hok a _ h)
    have zl : (dictText (PyData.shownKv es)).length ≤ sizeLine := by simpa only [PyData.shown] using hz
    obtain ⟨hs1, hs2⟩ := PyData.showableKv_split es (by simpa [PyData.showable] using hs)
    have rk : ReadsAll s.heap (des.toList.map (·.key)) (es.map (·.1)) [] := by rw [ek]; exact reads_keys pr rel
    obtain ⟨b1, hb1, k1⟩ := ReprAllK.of_readsAll (prog := X.prog) (w := X.w) rk hs1 (fun _ z => by cases z) (fun t ht => let ⟨p, hp, hl⟩ := PyData.shownKv_key_le es t ht; Nat.le_trans hl (Nat.le_trans (dictText_mem_le hp) zl))
    obtain ⟨b2, hb2, k2⟩ := TrAll.reprK I al _ (vals_of_pairs pr rel) hs2 (fun t ht => let ⟨p, hp, hl⟩ := PyData.shownKv_val_le es t ht; Nat.le_trans hl (Nat.le_trans (dictText_mem_le hp) zl))
    obtain ⟨as, r2⟩ := TrAll.reads I al _ (vals_of_pairs pr rel)
    have r0 : Reads s.heap (.ref a) (.dict es) _ := .dict ho hx.1 hd rk r2
    have hb : ReadAtMost s.heap (PyData.depthKv es) (b1 ++ b2) := (hb1.mono (PyData.depthAll_keys_le es)).append (hb2.mono (PyData.depthAll_vals_le es))
    have na : a ∉ b1 ++ b2 := not_mem_of_deeper r0 (by simp only [PyData.depth]; omega) hb
    simp only [PyData.depth] at hdep
    simp only [PyData.shown, PyData.shownKv_eq] at fin
    refine call_repr_slot (by omega) ⟨_, ho, hx.1⟩ F.slot_dict_repr ?_
    exact call_dict_reprK (h₀ := s.heap) ho hx.1 hd hsys na (ReprEntriesK.of_two des.toList _ _ (k1.more_le (fun b hb => List.mem_append_left _ hb) (PyData.depthAll_keys_le es)) (k2.more_le (fun b hb => List.mem_append_right _ hb) (PyData.depthAll_vals_le es)))
      hg (fun b _ => Clear.nil b) (by show X.A.units + 1 + (PyData.depthKv es + 1) < cLine; omega) (fun _ _ e => e) (fun h' u tk k => ⟨_, _, rfl, fin h' u tk k⟩) (by rw [← PyData.shownKv_eq]; exact zl)
/-! ### kinds -/
/-- the type's name -/
def tyD : PyData → String
  | .none => "NoneType"
  | .bool _ => "bool"
  | .int _ => "int"
  | .str _ => "str"
  | .list _ => "list"
  | .tuple _ => "tuple"
  | .dict _ => "dict"
theorem Tr.ty {K : PySem.W.Frag} {H : Hp} {x : V} {d : PyData} (t : Tr H x d) : TyX K H x (.type (tyD d)) := by
  cases t with
  | non => exact .base .non
  | bl b => exact .base (.bl b)
  | int i => exact .base (.int i)
  | str z => exact .base (.str z)
  | lst h _ => exact .base (.lst h)
  | tup h _ => exact .base (.tup h)
  | dct h _ _ _ => exact .base (.dK h)
/-- the answers of isinstance for the kinds of data -/
def isB : PyData → Bool
  | .bool _ => true
  | _ => false
def isI : PyData → Bool
  | .bool _ => true
  | .int _ => true
  | _ => false
def isStr : PyData → Bool
  | .str _ => true
  | _ => false
def isTup : PyData → Bool
  | .tuple _ => true
  | _ => false
def isLst : PyData → Bool
  | .list _ => true
  | _ => false
theorem kB : ∀ d : PyData, kitB (tyD d) "bool" = some (isB d) := by intro d; cases d <;> (simp only [tyD, isB]; decide +kernel)
theorem kI : ∀ d : PyData, kitB (tyD d) "int" = some (isI d) := by intro d; cases d <;> (simp only [tyD, isI]; decide +kernel)
theorem kS : ∀ d : PyData, kitB (tyD d) "str" = some (isStr d) := by intro d; cases d <;> (simp only [tyD, isStr]; decide +kernel)
theorem kT : ∀ d : PyData, kitB (tyD d) "tuple" = some (isTup d) := by intro d; cases d <;> (simp only [tyD, isTup]; decide +kernel)
theorem kL : ∀ d : PyData, kitB (tyD d) "list" = some (isLst d) := by intro d; cases d <;> (simp only [tyD, isLst]; decide +kernel)
/-- isinstance(e, T) -/
theorem call_isT {X : Cx} : CallR X (.builtin "isinstance") (fun xs H Q => ∃ (x : V) (T : String) (d : PyData) (g : PyData → Bool), xs = [x, .ty T] ∧ (∀ d, kitB (tyD d) T = some (g d)) ∧ Tr H x d ∧ Q (.bl (g d)) H) := by
  intro pz s σ H xs us Q I r h
  obtain ⟨x, T, d, g, rfl, hk, t, q⟩ := h
  exact call_isi pz s σ H _ us Q I r ⟨x, .ty T, _, _, _, rfl, .ty T, t.ty, kit_ty (hk d), q⟩
end Pk
/-! enumerate(a tuple) -/
namespace Pk
open PySem PySem.AutoSeq1
section
variable {prog : Program} {w : World} {A : Around} {E : Value → Shared → Prop} {s : Shared} {q t : Addr} {i : Nat} {its : Array Value}
theorem tupNext {x : Value} {Q : Value → Shared → Prop} (hq : s.heap.IsTupleIter q t i) (ht : s.heap.IsTuple t its) (hx : its[i]? = some x)
    (k : ∀ hz, hz.IsTupleIter q t (i + 1) → Heap.SameBut q s.heap hz → Q x { s with heap := hz }) : wpAny (model prog w) A (Builtin.SmallTypes.nextOf (.ref q)) Q E s := by
  obtain ⟨ob, g1, g2, g3⟩ := id hq
  obtain ⟨ot, g4, _, nt, g5⟩ := ht
  unfold Builtin.SmallTypes.nextOf
  refine wpAny_bind (wpAny_callSpecial?_slot (name := Str.ofString "__next__") hq.typeIs F.slot_tuple_iterator_next (wpAny_call_entry F.slot_tuple_iterator_next hq.typeIs F.entry_tuple_iterator_next ?_ (F.args_tuple_iterator_next_1 _)))
  show wpAny _ _ (field (.ref q) 0 >>= _) _ _ s
  refine wpAny_bind (wpAny_field g1 g3 (x := .ref t) rfl ?_)
  show wpAny _ _ (if (Value.ref t == Value.none) = true then _ else _) _ _ s
  rw [if_neg (show ¬ ((Value.ref t == Value.none) = true) from Bool.false_ne_true)]
  show wpAny _ _ (field (.ref q) 1 >>= _) _ _ s
  refine wpAny_bind (wpAny_field g1 g3 (x := .int i 0) rfl ?_)
  show wpAny _ _ (seqItems? (.ref t) >>= _) _ _ s
  refine wpAny_bind (wpAny_seqItems g4 g5 ?_)
  simp only [Int.toNat_natCast, hx]
  refine wpAny_bind (wpAny_setField g1 g3 (by simp) (wpAny_pure ⟨x, rfl, wpAny_pure (k _ ?_ (Heap.SameBut.update ..))⟩))
  exact ⟨_, Heap.get?_update_self _ g1 (Obj.isFreed_of_fields (Obj.data_mapFields g3 _)), (Obj.cls_mapFields ..).trans g2, by rw [Obj.data_mapFields g3]; simp [rawInt]⟩
theorem tupDone {Q : Value → Shared → Prop} (hh : A.handled = none) (hq : s.heap.IsTupleIter q t i) (ht : s.heap.IsTuple t its) (hx : its[i]? = none)
    (k : ∀ hz e, Heap.ExtBut q s.heap hz → (∃ o, hz.get? e = some o ∧ o.cls = .type "StopIteration") → E (.ref e) { s with heap := hz }) : wpAny (model prog w) A (Builtin.SmallTypes.nextOf (.ref q)) Q E s := by
  obtain ⟨ob, g1, g2, g3⟩ := id hq
  obtain ⟨ot, g4, _, nt, g5⟩ := ht
  unfold Builtin.SmallTypes.nextOf
  refine wpAny_bind (wpAny_callSpecial?_slot (name := Str.ofString "__next__") hq.typeIs F.slot_tuple_iterator_next (wpAny_call_entry F.slot_tuple_iterator_next hq.typeIs F.entry_tuple_iterator_next ?_ (F.args_tuple_iterator_next_1 _)))
  show wpAny _ _ (field (.ref q) 0 >>= _) _ _ s
  refine wpAny_bind (wpAny_field g1 g3 (x := .ref t) rfl ?_)
  show wpAny _ _ (if (Value.ref t == Value.none) = true then _ else _) _ _ s
  rw [if_neg (show ¬ ((Value.ref t == Value.none) = true) from Bool.false_ne_true)]
  show wpAny _ _ (field (.ref q) 1 >>= _) _ _ s
  refine wpAny_bind (wpAny_field g1 g3 (x := .int i 0) rfl ?_)
  show wpAny _ _ (seqItems? (.ref t) >>= _) _ _ s
  refine wpAny_bind (wpAny_seqItems g4 g5 ?_)
  simp only [Int.toNat_natCast, hx]
  refine wpAny_bind (wpAny_rule (wpAny_bind (wpAny_setField g1 g3 (by simp) ?_)))
  show wpAny _ _ (newExc (.type "StopIteration") [] >>= _) _ _ _
  refine wpAny_bind ?_
  simp only [newExc, newTuple]
  refine wpAny_bind (wpAny_newObj_type ?_ (by size_fits))
  refine wpAny_bind (m := firstArgMember _ _) (wpAny_of_eq (a := Value.none) (by first | rfl | (simp only [firstArgMember]; rfl)) ?_)
  refine wpAny_newObj_type ?_ (by size_fits)
  simp only [raiseNew]
  refine wpAny_bind (wpAny_handled ?_)
  first | rw [show A.in1.handled = none from hh] | rw [hh]
  refine wpAny_bind (wpAny_pure (wpAny_throw ?_))
  exact k _ _ (((Heap.SameBut.update ..).extBut.push _).push _) ⟨_, Heap.get?_push_size _ rfl, rfl⟩
end
theorem drawsTup {prog : Program} {w : World} {A : Around} (hh : A.handled = none) (q t : Addr) (hne : t ≠ q) (its : Array Value) : Draws prog w A q [q, t] its.size (fun i v => its[i]? = some v) (fun i h => h.IsTupleIter q t i ∧ h.IsTuple t its) where
  live := fun _ _ z => let ⟨o, ho, _⟩ := z.1; ⟨o, ho⟩
  frame := fun _ _ _ z hk => ⟨z.1.at fun o e => hk q (by simp) o e, let ⟨o, ho, r⟩ := z.2; ⟨o, hk t (by simp) o ho, r⟩⟩
  item := fun i s Q E hi z k => by
    refine tupNext z.1 z.2 (x := its[i]) (by simp [hi]) fun hz h1 h2 => ?_
    exact k _ hz s.toks (by simp [hi]) ⟨h1, let ⟨o, ho, r⟩ := z.2; ⟨o, (h2.2 t hne).trans ho, r⟩⟩ h2
  done := fun s Q E z k => tupDone hh z.1 z.2 (by simp) k
set_option maxHeartbeats 1000000 in
theorem enumNewTup (l : Addr) (its : Array Value) (n : Nat) (dd : Option Addr) (sl : Array (Option Value)) :
    Meets (Builtin.«enumerate.__new__» ⟨[.type "enumerate", .ref l], []⟩) (fun _ R s => s.heap.get? l = some { cls := .type "tuple", dict := dd, data := .seq its n, slots := sl } ∧
      R (.ok (.ret (.ref (s.heap.push { cls := .type "tuple_iterator", data := .fields #[.ref l, .int 0 0] }).objs.size)))
        { s with heap := (s.heap.push { cls := .type "tuple_iterator", data := .fields #[.ref l, .int 0 0] }).push { cls := .type "enumerate", data := .fields #[.none, .bool false, .ref s.heap.objs.size, rawInt 0, .none, .none] } }) :=
  .of_wp fun prog w A R s h => by
    obtain ⟨hp, g, d, tk, os⟩ := s
    obtain ⟨hl, h⟩ := h
    have hsub := sub_enumerate
    have hL : Heap.IsTuple (Shared.heap ⟨hp, g, d, tk, os⟩) l its := ⟨_, hl, rfl, n, rfl⟩
    wp_walk using wpAny_loadPart' hl
    refine wpAny_stack_any fun st => wpAny_pure ?_
    split
    · rename_i c _ _ _ _ _
      cases (c == Value.type "enumerate")
      · wp_walk using wpAny_loadPart' hl, wpAny_pyIter_tuple hL
        exact ⟨_, rfl, h⟩
      · wp_walk using wpAny_loadPart' hl, wpAny_pyIter_tuple hL
        exact ⟨_, rfl, h⟩
    · wp_walk using wpAny_loadPart' hl, wpAny_pyIter_tuple hL
      exact ⟨_, rfl, h⟩
theorem callEnumTup {prog : Program} {w : World} {A : Around} {E : Value → Shared → Prop} {s : Shared} {l : Addr} {its : Array Value} {Q : Value → Shared → Prop} (hL : s.heap.IsTuple l its)
    (k : ∀ hz, IsEnum hz (s.heap.objs.size + 1) s.heap.objs.size 0 .none → hz.IsTupleIter s.heap.objs.size l 0 → (∀ b o, s.heap.get? b = some o → hz.get? b = some o) → Q (.ref (s.heap.objs.size + 1)) { s with heap := hz }) :
    wpAny (model prog w) A (call (.type "enumerate") [.ref l]) Q E s := by
  obtain ⟨⟨c, dd, dt, sl⟩, hl, hc, n, hd⟩ := hL
  dsimp only at hc hd
  subst hc hd
  refine callType_new F.called_enumerate (by decide) (F.typeCall_enumerate_1 _) (F.newCall_enumerate_1 _) (fun obj => F.args_object_init_2 obj _) F.entry_enumerate_new (enumNewTup l its n dd sl) ⟨hl, ?_⟩
  have z1 : (s.heap.push { cls := .type "tuple_iterator", data := .fields #[.ref l, .int 0 0] }).objs.size = s.heap.objs.size + 1 := Heap.size_push ..
  show _ ∧ _
  rw [z1]
  have he : IsEnum ((s.heap.push { cls := .type "tuple_iterator", data := .fields #[.ref l, .int 0 0] }).push { cls := .type "enumerate", data := .fields #[.none, .bool false, .ref s.heap.objs.size, rawInt 0, .none, .none] }) (s.heap.objs.size + 1) s.heap.objs.size 0 .none := by
    have z2 := Heap.get?_push_size (s.heap.push { cls := .type "tuple_iterator", data := .fields #[.ref l, .int 0 0] }) (o := { cls := .type "enumerate", data := .fields #[.none, .bool false, .ref s.heap.objs.size, rawInt 0, .none, .none] }) rfl
    rw [z1] at z2
    exact z2
  exact ⟨⟨_, he, rfl⟩, k _ he ⟨_, Heap.get?_push_of_some _ (Heap.get?_push_size _ rfl), rfl, rfl⟩ fun b o x => Heap.get?_push_of_some _ (Heap.get?_push_of_some _ x)⟩
end Pk
namespace Pk
open PySem L2 PySem.Spec PyProof.Rows
/-- the items of the tuple at a, each with its number in a new pair -/
def IteT (K : PySem.W.Frag) (a : Addr) : It :=
  ⟨fun i H => ∃ (xs : List V) (x : V), SqT K H a xs ∧ xs[i]? = some x, fun i H v H' => ∃ T x, v = .ref T ∧ H T = none ∧ H' = upd H T (.tup [.int (i : Nat), x]) ∧ ∀ xs, SqT K H a xs → xs[i]? = some x, fun i H => ∃ xs : List V, SqT K H a xs ∧ xs.length ≤ i⟩
theorem turnEnumT {P : Program} {w : World} {K : PySem.W.Frag} {elts : List Expr} {kk : Nat} {tp : Pos} (a e it : Addr) :
    Turn P w K (.Tuple elts kk tp) (IteT K a) [e, it] e (fun i h => (∃ old, IsEnum h e it ((i : Nat) : Int) old) ∧ h.IsTupleIter it a i ∧ e ≠ it ∧ a ≠ it ∧ e ≠ a) where
  mem := by simp
  obj := fun i h z b hb => by
    obtain ⟨⟨old, he⟩, ⟨o, ho, hc, hd⟩, _⟩ := z
    rcases (show b = e ∨ b = it by simpa using hb) with y | y
    · rw [y]; exact ⟨_, he, fun v q => nomatch q⟩
    · rw [y]; exact ⟨o, ho, fun v q => by rw [hd] at q; cases q⟩
  keep := fun i h h' z k => let ⟨⟨old, he⟩, hi, hne⟩ := z; ⟨⟨old, k e (by simp) _ he⟩, hi.at fun o q => k it (by simp) o q, hne⟩
  item := by
    intro X hP hw hK hc i pz s σ H E I hf z hg
    subst hP hw hK
    obtain ⟨⟨old, he⟩, hit, hne, hai, hea⟩ := z
    obtain ⟨xs, x, hq, hx⟩ := hg
    obtain ⟨its, rv, p, hz⟩ := I.tuple hq
    obtain ⟨u, hu, ru⟩ := rv.get hx
    have l1 : e < s.heap.objs.size := Heap.lt_size he
    have l2 : it < s.heap.objs.size := by obtain ⟨_, y, _⟩ := hit; exact Heap.lt_size y
    have hlt : i < its.toArray.size := by
      have y := (List.getElem?_eq_some_iff.mp hu).1
      simpa using y
    refine wpAny_pyNext_enum_itemD (drawsTup (show X.A.in1.handled = none from I.ok.hd hc) it a hai its.toArray) he ⟨hit, p⟩ hlt hne (by simp; exact ⟨hne, hea⟩) fun y h' tk hy ho hs' hT hsz hk => ?_
    have eu : y = u := by
      have y1 : its.toArray[i]? = some u := by simpa using hu
      rw [hy] at y1
      exact Option.some.inj y1
    subst eu
    refine ⟨_, rfl, wpAny_letOwnedTupleGo_enum (s := { s with heap := h', toks := tk + 1 }) ho fun h'' he' sb => ?_⟩
    have hT2 : h''.get? s.heap.objs.size = some { cls := .type "tuple", data := .seq #[.int i tk, y] } := (sb.2 _ (Nat.ne_of_gt l1)).trans hT
    have new : ObjOk X.prog X.w (upd H s.heap.objs.size (.tup [.int (i : Nat), x])) h'' s.heap.objs.size (.tup [.int (i : Nat), x]) :=
      ⟨by show 2 ≤ sizeLine; decide, [.int i tk, y], .cons ⟨_, rfl⟩ (.cons ru .nil), ⟨_, hT2, rfl, _, rfl⟩⟩
    have Ia : L2.Inv X pz σ (upd H s.heap.objs.size (.tup [.int (i : Nat), x])) { s with heap := h'', toks := tk + 1 } :=
      I.turnedNew (ch := [e, it]) (fun b ob hb q => (sb.2 b (fun z => hb (by simp [z]))).trans (hk b ob (fun z => hb (by simp [z])) (fun z => hb (by simp [z])) q)) hf (Nat.le_refl _) new
    refine ⟨.ref s.heap.objs.size, _, Ia, rfl, ⟨_, x, rfl, I.hok.fresh (Nat.le_refl _), rfl, fun ys hy => by rw [I.tuple_inj hy hq]; exact hx⟩, ⟨⟨y, ?_⟩, hs'.1.at fun o q => (sb.2 it (Ne.symm hne)).trans q, hne, hai, hea⟩, fun b hb => ?_⟩
    · have y1 : ((i + 1 : Nat) : Int) = (i : Int) + 1 := by omega
      rw [y1]
      exact he'
    · have hb' : b < s.heap.objs.size := by
        rcases (show b = e ∨ b = it by simpa using hb) with z | z
        · rw [z]; exact l1
        · rw [z]; exact l2
      rw [upd_ne (Nat.ne_of_lt hb')]
      exact (hf b hb).1
  done := by
    intro X hP hw hK hc i pz s σ H E I hf z hg
    subst hP hw hK
    obtain ⟨⟨old, he⟩, hit, hne, hai, hea⟩ := z
    obtain ⟨xs, hq, hx⟩ := hg
    obtain ⟨its, rv, p, hz⟩ := I.tuple hq
    obtain ⟨f0, f1, f2, f3, f4, f5⟩ := hf it (by simp)
    have hl := rv.length
    have hT : s.TypeIs (.ref e) "enumerate" := ⟨_, he, rfl⟩
    unfold pyNext
    refine wpAny_bind (wpAny_attempt (wpAny_callSpecial?_slot (name := Str.ofString "__next__") hT F.slot_enumerate_next (wpAny_call_entry F.slot_enumerate_next hT F.entry_enumerate_next ?_ (F.args_enumerate_next_1 _))))
    show wpAny _ _ (field (.ref e) 2 >>= _) _ _ _
    refine wpAny_bind (wpAny_field he rfl (x := .ref it) rfl ?_)
    refine wpAny_bind (tupDone (show X.A.in1.handled = none from I.ok.hd hc) hit (show s.heap.IsTuple a its.toArray from p) (by simp; omega) fun h' x he' hx' => ?_)
    obtain ⟨o, ho, hcl⟩ := hx'
    refine wpAny_bind (wpAny_isInstance (T := "StopIteration") (b := true) ⟨o, ho, hcl⟩ isSubtype_stop ?_)
    exact wpAny_pure ⟨rfl, I.turned (t' := s.toks) (fun b o hb q => he' b o hb q) f0 f1 f3 f4 f5⟩
  self := fun A i s Q E z h => let ⟨⟨_, he⟩, _⟩ := z; wpAny_pyIter_enum he h
def iEnumT (K : PySem.W.Frag) (ta : TA) : TI := fun σ H R => ta σ H fun va Ha => ∃ a xs, va = [.ref a] ∧ SqT K Ha a xs ∧ R (IteT K a) Ha
theorem pi_enumT {X : Cx} {e : Expr} {ta : TA} {p pos tp : Pos} {elts : List Expr} {kk : Nat} (hg : Gl X "enumerate") (hm : X.mg "enumerate" = none) (ha : PA X [e] ta) (hs : starEach [e] X.env = [(false, eval e X.env)] := by rfl) :
    PI X (.Tuple elts kk tp) (.Call (.Name "enumerate" p) [e] [] pos) (iEnumT X.K ta) := by
  refine ⟨fun pz s σ H R I h => ?_⟩
  refine Call_ (ld_blt I hg hm boot_enumerate (PyProof.Rows.callWith_type1 (thn (ha.run pos pz s σ H _ I h) fun ua sa ⟨va, Ha, Ia, ra, qa⟩ => ?_) hs rfl))
  obtain ⟨a, xs, ex, hq, q⟩ := qa
  subst ex
  cases ra with
  | cons r rr =>
    cases rr
    cases (show _ = Value.ref a from r)
    obtain ⟨its, rv, p', hz⟩ := Ia.tuple hq
    have la : a < sa.heap.objs.size := by obtain ⟨_, y, _⟩ := p'; exact Heap.lt_size y
    refine callEnumTup p' fun hz' he hit hk => wpAny_pyIter_enum he ?_
    have Ib : L2.Inv X pz σ Ha { sa with heap := hz' } := Ia.kept (t' := sa.toks) hk
    refine ⟨sa.heap.objs.size + 1, [sa.heap.objs.size + 1, sa.heap.objs.size], _, _, Ha, rfl, Ib, turnEnumT a (sa.heap.objs.size + 1) sa.heap.objs.size, ⟨⟨.none, he⟩, hit, Nat.succ_ne_self _, Nat.ne_of_lt la, Nat.ne_of_gt (Nat.lt_succ_of_lt la)⟩, fun b hb => ?_, q⟩
    have hle : sa.heap.objs.size ≤ b := by
      rcases (show b = sa.heap.objs.size + 1 ∨ b = sa.heap.objs.size by simpa using hb) with z | z
      · rw [z]; exact Nat.le_succ _
      · rw [z]; exact Nat.le_refl _
    exact Ia.fpOk hle (Ia.hok.fresh hle)
end Pk
namespace Pk
open PySem L2 PySem.Spec PyProof.Rows GxR
/-- 'a' <= sign <= 'z' -/
def smallC (c : Nat) : Bool := decide (97 ≤ c) && decide (c ≤ 122)
theorem lt1 (a b : Nat) : decide (([a] : List Nat) < [b]) = decide (a < b) := by
  by_cases h : a < b
  · rw [decide_eq_true h]
    exact decide_eq_true (by simp [List.cons_lt_cons_iff, h])
  · rw [decide_eq_false h]
    exact decide_eq_false (by simp [List.cons_lt_cons_iff, h])
theorem elt_az {prog : Program} {w : World} {scope : Scope} {x : Str} {j1 j2 : Nat} {p1 p2 p3 p4 : Pos} (hk : scope.kind = .function) (hl : scope.names.lookup x = some .local) (hd : (x == ("__debug__" : Str)) = false := by decide) :
    EltP prog w scope x (.Compare (.Constant (.str "a") j1 p1) [.LtE, .LtE] [.Name x p2, .Constant (.str "z") j2 p3] p4) smallC := by
  intro cenv A' E' c t sz m hs hn hm
  have e1 : (!decide ((⟨#[c]⟩ : Str).cps.toList < ("a" : Str).cps.toList)) = decide (97 ≤ c) := by
    show (!decide ([c] < [97])) = decide (97 ≤ c)
    rw [lt1]
    by_cases h : c < 97
    · rw [decide_eq_true h, decide_eq_false (by omega)]; rfl
    · rw [decide_eq_false h, decide_eq_true (by omega)]; rfl
  have e2 : (!decide (("z" : Str).cps.toList < (⟨#[c]⟩ : Str).cps.toList)) = decide (c ≤ 122) := by
    show (!decide ([122] < [c])) = decide (c ≤ 122)
    rw [lt1]
    by_cases h : 122 < c
    · rw [decide_eq_true h, decide_eq_false (by omega)]; rfl
    · rw [decide_eq_false h, decide_eq_true (by omega)]; rfl
  refine Compare_chain (Calls.Constant_str (chain_link (wpAny_Name (wpAny_loadName_local (by rw [hs]; exact hk) (show cenv.scope.names.lookup x = some .local by rw [hs]; exact hl) hn hm ?_) hd))) (by with_unfolding_all rfl)
  refine PySem.P.le_str ?_
  rw [e1]
  refine wpAny_truthy_bool ?_
  cases h1 : decide (97 ≤ c) with
  | false => exact ite_ff ⟨by unfold smallC; rw [h1]; rfl, keeps_tok _ _⟩
  | true =>
    refine ite_tt (chain_last (Calls.Constant_str (PySem.P.le_str ?_)))
    rw [e2]
    exact ⟨by unfold smallC; rw [h1]; rfl, keeps_tok _ _⟩
/-! ### x in a tuple of data -/
section
variable {X : Cx}
theorem op_inDT (hu : X.A.units + 65 < cLine) : OpR X (compareOp .In) (fun x y H Q => ∃ (d : PyData) (ds : List PyData), Dp X.K H x d ∧ Dp X.K H y (.tuple ds) ∧ SeqAt.shaped d = true ∧ SeqAt.shaped (.tuple ds) = true ∧ Q (.bl (ds.any fun z => PyData.eqv z d)) H) := by
  intro pz s σ H x y v u Q I rx ry h
  obtain ⟨d, ds, hd, he, sd, se, q⟩ := h
  obtain ⟨as, r1⟩ := Dp.reads I d x v hd rx
  obtain ⟨bs, r2⟩ := Dp.reads I (.tuple ds) y u he ry
  exact SeqAt.in_tuple_reads r2 r1 (SeqAt.canLay_of_shaped se) (SeqAt.canLay_of_shaped sd) (room_in_shaped sd hu) ⟨.bl _, H, I, rfl, q⟩
end
end Pk
namespace Pk
open PySem L2 PySem.Spec PyProof.Rows
/-- the law's call from outside, with tables of code objects (cs: code object, its table) -/
theorem lawGT {P : Program} {w : World} {K : PySem.W.Frag} {mg mb : Str → Option Value} {k : Nat} {fa a : Addr} {cs : List (Addr × Addr)} {fd : FuncData} {x : Str} {sp : Sp} {sz : Shared} {va : List Value} {ns : List Int}
    (inK : K.In sz.heap) (hn : sz.heap.Ns mainGlobals mg) (hbn : sz.heap.Ns builtinsNs mb) (hbb : ∀ x : Str, x ≠ "__name__" → mb x = bootBuiltins x) (noL : sz.heap.NoLimit) (hgn : sz.gens = #[])
    (tabs : ∀ p ∈ cs, sz.heap.get? p.2 = some { cls := .none, data := .fields #[] }) (notK : ∀ p ∈ cs, K.lookup p.2 = none) (hds : ∀ p ∈ cs, PySem.W.CodeHd sz.heap p.1 p.2)
    (hbm : ∃ (bm : Addr) (ob : Obj), mg "__builtins__" = some (.ref bm) ∧ bm ≠ builtinsNs ∧ sz.heap.get? bm = some ob ∧ ob.cls = .type "module" ∧ ob.dict = some builtinsNs ∧ ob.data = .plain)
    (ha : sz.heap.get? a = some { cls := .type "list", data := .seq va.toArray }) (hi : IntsAre va ns) (hl : ns.length ≤ sizeLine) (hr : Room k callerA)
    (G : ∀ bs : Heap, K.In bs → bs.Ns mainGlobals mg → (∀ p ∈ cs, GxR.TabB bs mg p.1 p.2) → FnG P w K mg bs k fa fd [x] sp) (hbt : ∀ (s : Shared) (u : Value), BindsTo s fd ⟨[u], []⟩ [(x, u)])
    (hq : ∀ H : Hp, (∀ p ∈ cs, H p.2 = some (.tbl #[])) → SqL K H a (ns.map V.int) → sp [.ref a] H (fun v _ => v = .bl true) fun _ _ _ => False) :
    codeAny (model P w) callerA (.call (.ref fa) ⟨[.ref a], []⟩) (fun r s' => r = .ok (.ret (.bool true)) ∧ OldK sz.heap s'.heap ∧ s'.os = sz.os ∧ AllBare s'.gens) sz := by
  have rr := vals_ints hi
  have ln := hi.length
  have isTab : ∀ b : Addr, b ∈ cs.map (·.2) → sz.heap.get? b = some { cls := .none, data := .fields #[] } := fun b hb => by
    obtain ⟨p, hp, e⟩ := List.mem_map.mp hb
    subst e
    exact tabs p hp
  have noTab : a ∉ cs.map (·.2) := fun z => by
    have y := (isTab a z).symm.trans ha
    cases y
  have inT : ∀ p ∈ cs, p.2 ∈ cs.map (·.2) := fun p hp => List.mem_map.mpr ⟨p, hp, rfl⟩
  have main : ∀ H : Hp, (∀ p ∈ cs, H p.2 = some (.tbl #[])) → (∀ b u, H b = some u → b ∈ cs.map (·.2) ∨ (b = a ∧ ∃ o xs, u = .frz o (.lst xs))) → SqL K H a (ns.map V.int) → HOk P w H sz.heap → (H a ≠ none → K.lookup a = none) →
      codeAny (model P w) callerA (.call (.ref fa) ⟨[.ref a], []⟩) (fun r s' => r = .ok (.ret (.bool true)) ∧ OldK sz.heap s'.heap ∧ s'.os = sz.os ∧ AllBare s'.gens) sz := by
    intro H hT only hS hok hK
    have free : ∀ {b : Addr} {o : Obj}, sz.heap.get? b = some o → (∀ v n, o.data ≠ .seq v n) → o.data ≠ .fields #[] → H b = none := fun {b o} e n1 n2 => by
      cases z : H b with
      | none => rfl
      | some u =>
        rcases only b u z with y | ⟨y, _⟩
        · rw [isTab b y] at e
          cases e
          exact (n2 rfl).elim
        · rw [y, ha] at e
          cases e
          exact (n1 _ _ rfl).elim
    have freeD : ∀ {b : Addr} {o : Obj} {es : Array DictEntry} {ep : Nat}, sz.heap.get? b = some o → o.data = .dict es ep → H b = none := fun {b o es ep} e d => free e (fun v n z => by rw [d] at z; cases z) fun z => by rw [d] at z; cases z
    have nsB : ∀ {b : Addr} {m : Str → Option Value}, sz.heap.Ns b m → (hidT sz.heap H).Ns b m := fun {b m} ⟨o, es, ep, e, d, z⟩ => ⟨o, es, ep, hidT_get e (freeD e d), d, z⟩
    have kB : K.In (hidT sz.heap H) := fun b o e => hidT_get (inK b o e) (by
      cases z : H b with
      | none => rfl
      | some u =>
        rcases only b u z with y | ⟨y, _⟩
        · obtain ⟨p, hp, ep⟩ := List.mem_map.mp y
          subst ep
          rw [notK p hp] at e
          cases e
        · subst y
          rw [hK (by rw [z]; simp)] at e
          cases e)
    have md : L2.Mod K mg (hidT sz.heap H) := ⟨kB, nsB hn, ⟨mb, nsB hbn, hbb⟩, let ⟨mc, z1, z2⟩ := noL; ⟨mc, nsB z1, z2⟩⟩
    have tb : ∀ p ∈ cs, GxR.TabB (hidT sz.heap H) mg p.1 p.2 := fun p hp => by
      have tp := tabs p hp
      refine ⟨?_, ?_, fun z => ?_⟩
      · obtain ⟨o, us, file, tf, flags, tg, inF, text, tt, e1, g1, g2, g3, g4, g5, g6, g7, g8, g9⟩ := hds p hp
        refine ⟨o, us, file, tf, flags, tg, inF, text, tt, hidT_get e1 (free e1 (fun v n z => ?_) fun z => ?_), g1, g2, g3, g4, g5, g6, g7, g8, g9⟩
        · rw [g2] at z
          cases z
        · rw [g2] at z
          cases z
          simp at g3
      · obtain ⟨bm, ob, b1, b2, b3, b4, b5, b6⟩ := hbm
        have n1 : bm ≠ mainGlobals := fun q => by
          obtain ⟨o, es, ep, e, hd, _⟩ := hn
          subst q
          rw [e] at b3
          cases b3
          rw [hd] at b6
          cases b6
        have n2 : bm ≠ p.2 := fun q => by
          subst q
          rw [tp] at b3
          cases b3
          cases b6
        exact ⟨bm, ob, b1, b2, n1, n2, hidT_get b3 (free b3 (fun v n z => by rw [b6] at z; cases z) fun z => by rw [b6] at z; cases z), b4, b5, b6⟩
      · obtain ⟨o, es, ep, e, hd, _⟩ := hn
        rw [z, tp] at e
        cases e
        cases hd
    have ez : Env0 P w K mg (hidT sz.heap H) callerA [] sz H := ⟨rfl, md, fun b o e => of_hidT e, Nat.le_of_eq (hidT_size _ _), trivial, fun b hb => absurd (show b ∈ ([] : List Addr) from hb) (by simp), hok, .of_eq hgn⟩
    refine codeAny_mono ((G _ kB (nsB hn) tb).run callerA [] sz H ⟨[.ref a], []⟩ [.ref a] [.ref a] _ _ rfl hr ez (hbt sz (.ref a)) (.cons rfl .nil) (hq H hT hS)) fun rz sy hy => ?_
    cases rz with
    | error e => exact hy.elim
    | ok fl =>
      cases fl with
      | next => exact hy.elim
      | brk => exact hy.elim
      | cont => exact hy.elim
      | ret u =>
        obtain ⟨v, Hy, osy, bry, un, oky, rv, qy⟩ := hy
        cases (show v = .bl true from qy)
        cases (show u = Value.bool true from rv)
        have same : ∀ b o, b ∉ cs.map (·.2) → sz.heap.get? b = some o → sy.heap.get? b = some o := fun b o nb e => by
          cases z : H b with
          | none => exact un.keep b o e z (fun q => absurd (show b ∈ ([] : List Addr) from q) (by simp)) (by simp)
          | some u =>
            rcases only b u z with y | ⟨_, ob, xs, y⟩
            · exact absurd y nb
            · subst y
              obtain ⟨g1, _⟩ := hok b _ z
              obtain ⟨g2, _⟩ := oky b _ (un.frzs b ob _ z)
              rw [e] at g1
              cases g1
              exact g2
        have grown : ∀ p ∈ cs, ∃ more : Array Value, sy.heap.get? p.2 = some { cls := .none, data := .fields more } := fun p hp => by
          obtain ⟨more, z⟩ := un.tbls p.2 #[] (hT p hp)
          exact ⟨_, oky p.2 _ z⟩
        refine ⟨rfl, ⟨fun b o e => ?_, fun b o e => ?_⟩, osy, bry⟩
        · by_cases hb : b ∈ cs.map (·.2)
          · obtain ⟨p, hp, ep⟩ := List.mem_map.mp hb
            subst ep
            obtain ⟨more, hm⟩ := grown p hp
            rw [tabs p hp] at e
            cases e
            exact .inr (.inl ⟨((hds p hp).tab (tabs p hp)).isCodeTable, rfl, #[], more, rfl, by rw [Array.empty_append]; exact hm⟩)
          · exact .inl (same b o hb e)
        · by_cases hb : b ∈ cs.map (·.2)
          · obtain ⟨p, hp, ep⟩ := List.mem_map.mp hb
            subst ep
            obtain ⟨more, hm⟩ := grown p hp
            exact ⟨_, hm⟩
          · exact ⟨o, same b o hb e⟩
  cases hk : K.lookup a with
  | some o =>
    have e := inK a o hk
    rw [ha] at e
    cases e
    refine main (fun b => if b ∈ cs.map (·.2) then some (.tbl #[]) else none) (fun p hp => if_pos (inT p hp)) (fun b u z => ?_) (.inr ⟨_, va.toArray, _, hk, rfl, rfl, rfl, by rw [List.size_toArray, ln]; exact hl, by simpa using rr⟩) (fun b u z => ?_) fun z => absurd (show (if a ∈ cs.map (·.2) then some (HO.tbl #[]) else none) = none from if_neg noTab) z
    · by_cases hb : b ∈ cs.map (·.2)
      · exact .inl hb
      · cases (if_neg hb).symm.trans z
    · by_cases hb : b ∈ cs.map (·.2)
      · cases (if_pos hb).symm.trans z
        exact isTab b hb
      · cases (if_neg hb).symm.trans z
  | none =>
    refine main (fun b => if b = a then some (.frz { cls := .type "list", data := .seq va.toArray } (.lst (ns.map V.int))) else if b ∈ cs.map (·.2) then some (.tbl #[]) else none)
      (fun p hp => (if_neg (show ¬ p.2 = a from fun z => noTab (by rw [← z]; exact inT p hp))).trans (if_pos (inT p hp))) (fun b u z => ?_) (.inl (.inr ⟨{ cls := .type "list", data := .seq va.toArray }, if_pos rfl⟩)) (fun b u z => ?_) fun _ => hk
    · by_cases hb : b = a
      · cases (if_pos hb).symm.trans z
        exact .inr ⟨hb, _, _, rfl⟩
      · by_cases hb2 : b ∈ cs.map (·.2)
        · exact .inl hb2
        · cases ((if_neg hb).trans (if_neg hb2)).symm.trans z
    · by_cases hb : b = a
      · cases (if_pos hb).symm.trans z
        subst hb
        exact ⟨ha, by rw [List.length_map]; exact hl, va, _, rr, ha⟩
      · by_cases hb2 : b ∈ cs.map (·.2)
        · cases ((if_neg hb).trans (if_pos hb2)).symm.trans z
          exact isTab b hb2
        · cases ((if_neg hb).trans (if_neg hb2)).symm.trans z
/-- the goal that the head leaves, from the law's promise; nms: the defs that hold generator expressions -/
theorem walkGT {l : PySem.W.OpenLaw} {n k : Nat} {q : Program} {loose : List Str} {XP : (Str → Option Value) → Heap → Prop} {YP : World → Heap → Prop} {d : DefRec} {K : Params → PySem.W.Frag} {sp : PySem.W.Frag → List (Addr × Addr) → Sp} {x : Str}
    (hr : Room k callerA) (hn : l.most = some n) (hn2 : n ≤ sizeLine) (hdf : d.params.defaults = []) (hY : ∀ (w : World) (h : Heap), YP w h → (K w.params).In h)
    (G : ∀ (w : World) (mg : Str → Option Value) (fa : Addr) (h : Heap), (K w.params).In h → h.Ns mainGlobals mg → mg d.name = some (.ref fa) →
      ∃ (fd : FuncData) (cs : List (Addr × Addr)), (∀ p ∈ cs, ∃ (y : Str) (dr : DefRec), (recsOf q).find? (fun e => e.name == y) = some dr ∧ PySem.W.tabIn (K w.params) y = some p ∧ (K w.params).lookup p.2 = none) ∧
        (∀ (s : Shared) (u : Value), BindsTo s fd ⟨[u], []⟩ [(x, u)]) ∧ ∀ bs : Heap, (K w.params).In bs → bs.Ns mainGlobals mg → (∀ p ∈ cs, GxR.TabB bs mg p.1 p.2) → FnG l.prog w (K w.params) mg bs k fa fd [x] (sp (K w.params) cs))
    (hq : ∀ (K : PySem.W.Frag) (cs : List (Addr × Addr)) (H : Hp) (a : Addr) (ns : List Int), ns.length ≤ n → (∀ p ∈ cs, H p.2 = some (.tbl #[])) → SqL K H a (ns.map V.int) → sp K cs [.ref a] H (fun v _ => v = .bl true) fun _ _ _ => False) :
    PySem.W.WalkO q loose XP YP l.row.toRowW d [] (fun f va => PySem.call f va) := by
  refine Att.attach_call hn hdf fun w sy sz mg mb fa o pm cd doc a va ns Gr Y ho hd hcd hmg hob hin hle hgn => ?_
  have inK := hY w _ Y
  obtain ⟨fd, cs, hcs, hbt, hG⟩ := G w mg fa _ inK Gr.T.g hmg
  have tb : ∀ p ∈ cs, PySem.W.CodeHd sz.heap p.1 p.2 ∧ sz.heap.get? p.2 = some { cls := .none, data := .fields #[] } := fun p hp => by
    obtain ⟨y, dr, h1, h2, _⟩ := hcs p hp
    exact PySem.W.tab_of Gr.T inK h1 h2
  exact lawGT inK Gr.T.g Gr.T.b Gr.T.builtins Gr.T.nolimit hgn (fun p hp => (tb p hp).2) (fun p hp => let ⟨_, _, _, _, z⟩ := hcs p hp; z) (fun p hp => (tb p hp).1) Gr.T.bmain hob hin (Nat.le_trans hle hn2) hr hG hbt fun H hT hS => hq _ cs H a ns hle hT hS
end Pk
/-! The mirror: what is a house, told of data. -/
namespace Pk
open PySem
def wholeD (lo hi : Int) : PyData → Bool
  | .int i => decide (lo ≤ i) && decide (i ≤ hi)
  | _ => false
def tupD (a b : Int) : PyData → Bool
  | .tuple ds => decide (a ≤ (ds.length : Int)) && decide ((ds.length : Int) ≤ b)
  | _ => false
def nameD : PyData → Bool
  | .str z => decide ((1 : Int) ≤ (z.length : Int)) && (decide ((z.length : Int) ≤ 8) && z.cps.toList.all smallC)
  | _ => false
def inS (zs : List Str) (d : PyData) : Bool := zs.any fun z => strIs z d
def farS : Int := 1000000000000000000
def greatS : Int := 100000000000000000000
def ways3 : List Str := ["both", "up", "down"]
def sorts2 : List Str := ["least", "most"]
def pairs3 : List Str := ["off", "most", "least"]
/-- a dial's numbers -/
def dialR : PyData → PyData → PyData → PyData → Bool
  | .int l, hi, up, down => wholeD (-farS) farS (.int l) && (wholeD l farS hi && (wholeD 1 1000000 up && wholeD 1 1000000 down))
  | _, _, _, _ => false
def dialD : PyData → Bool
  | .tuple [n, lo, hi, way, up, down] => nameD n && (inS ways3 way && dialR lo hi up down)
  | _ => false
def sayingD (ns : List Str) : PyData → Bool
  | .tuple [n, s, i] => inS ns n && (inS sorts2 s && wholeD (-greatS) greatS i)
  | _ => false
/-- two data that are the same text -/
def sameS : PyData → PyData → Bool
  | .str a, .str b => a == b
  | _, _ => false
def ruleD (ns : List Str) : PyData → Bool
  | .tuple [w, p, q] => strIs "one" w && (sayingD ns p && sayingD ns q)
  | .tuple [w, a, b, c] => inS pairs3 w && (inS ns a && (inS ns b && (!sameS a b && wholeD (-greatS) greatS c)))
  | _ => false
def formD : PyData → Bool
  | .tuple [d, r] => tupD 1 12 d && tupD 0 40 r
  | _ => false
/-- the name of a dial, as a text -/
def nameOf : PyData → Str
  | .tuple (.str z :: _) => z
  | _ => ""
/-- text below or alike -/
def leS (a b : Str) : Bool := !decide (b.cps.toList < a.cps.toList)
/-- the first faulty dial, from the k-th on; prev: the one ahead -/
def fDial (k : Nat) (prev : Option Str) : List PyData → Option Nat
  | [] => none
  | d :: ds => if dialD d = true then (match prev with
      | some p => if leS (nameOf d) p = true then some k else fDial (k + 1) (some (nameOf d)) ds
      | none => fDial (k + 1) (some (nameOf d)) ds) else some k
/-- the first faulty rule, from the k-th on, past: those ahead -/
def fRule (ns : List Str) (k : Nat) (past : List PyData) : List PyData → Option Nat
  | [] => none
  | r :: rs => if ruleD ns r = true then (if (past.any fun z => PyData.eqv z r) = true then some k else fRule ns (k + 1) (past ++ [r]) rs) else some k
def dialsOf : PyData → List PyData
  | .tuple (.tuple ds :: _) => ds
  | _ => []
def rulesOf : PyData → List PyData
  | .tuple [_, .tuple rs] => rs
  | _ => []
def faultD (d : PyData) : PyData :=
  if formD d = true then (match fDial 0 none (dialsOf d) with
    | some k => .tuple [.str "dial", .int k]
    | none => match fRule ((dialsOf d).map nameOf) 0 [] (rulesOf d) with
      | some k => .tuple [.str "rule", .int k]
      | none => .none)
  else .tuple [.str "house"]
end Pk
namespace Pk
open PySem L2
def topH (i : Nat) : Stmt := PySem.Challenge.pw_pawldials_k72_whole_house_texts_refused.main.body.getD i (.Pass ⟨0, 0, 0, 0⟩)
abbrev sWhole : Stmt := topH 1
abbrev sTupOf : Stmt := topH 2
abbrev sIsName : Stmt := topH 15
abbrev sPrice : Stmt := topH 16
abbrev sIsDial : Stmt := topH 17
abbrev sIsSaying : Stmt := topH 18
abbrev sIsRule : Stmt := topH 19
abbrev sForm : Stmt := topH 23
abbrev sFDial : Stmt := topH 24
abbrev sFRule : Stmt := topH 25
abbrev sFault : Stmt := topH 26
/-- the built-in names that these defs ask -/
structure BltH (mg : Str → Option Value) : Prop where
  isinstance : mg "isinstance" = none
  bool : mg "bool" = none
  int : mg "int" = none
  str : mg "str" = none
  tuple : mg "tuple" = none
  list : mg "list" = none
  len : mg "len" = none
  all : mg "all" = none
  enumerate : mg "enumerate" = none
/-- the module's own constants -/
structure Cons (K : PySem.W.Frag) (mg : Str → Option Value) (W S R : Addr) : Prop where
  far : ∃ t, mg "FARTHEST" = some (.int farS t)
  great : ∃ t, mg "GREATEST" = some (.int greatS t)
  dear : ∃ t, mg "DEAREST" = some (.int 1000000 t)
  long : ∃ t, mg "LONGEST_NAME" = some (.int 8 t)
  dials : ∃ t, mg "MOST_DIALS" = some (.int 12 t)
  rules : ∃ t, mg "MOST_RULES" = some (.int 40 t)
  mW : mg "WAYS" = some (.ref W)
  mS : mg "SORTS" = some (.ref S)
  mR : mg "PAIR_RULES" = some (.ref R)
  ways : ∀ H, SqT K H W (ways3.map V.str)
  sorts : ∀ H, SqT K H S (sorts2.map V.str)
  pairs : ∀ H, SqT K H R (pairs3.map V.str)
def spWhole : Sp := fun vs H Q _ => ∃ (x : V) (d : PyData) (lo hi : Int), vs = [x, .int lo, .int hi] ∧ Tr H x d ∧ Q (.bl (wholeD lo hi d)) H
def spTupOf : Sp := fun vs H Q _ => ∃ (x : V) (d : PyData) (a b : Int), vs = [x, .int a, .int b] ∧ Tr H x d ∧ Q (.bl (tupD a b d)) H
def spPrice : Sp := fun vs H Q _ => ∃ (x : V) (d : PyData), vs = [x] ∧ Tr H x d ∧ Q (.bl (wholeD 1 1000000 d)) H
/-- all stays, but a table may grow -/
def Gr (P : Addr) (H H' : Hp) : Prop := GxR.TabG H' P ∧ ∀ b o, b ≠ P → H b = some o → H' b = some o
theorem Gr.of {P : Addr} {H H' : Hp} (h : GxR.Tabbed P H H') : Gr P H H' := ⟨h.1, fun b o hb e => by rw [h.2 b hb]; exact e⟩
theorem Gr.refl {P : Addr} {H : Hp} (h : GxR.TabG H P) : Gr P H H := ⟨h, fun _ _ _ e => e⟩
theorem Gr.trans {P : Addr} {H H1 H2 : Hp} (a : Gr P H H1) (b : Gr P H1 H2) : Gr P H H2 := ⟨b.1, fun c o hc e => b.2 c o hc (a.2 c o hc e)⟩
theorem Gr.same {P : Addr} {H H' : Hp} (t : GxR.TabG H P) (s : Same H H') : Gr P H H' := ⟨let ⟨ps, h1, h2⟩ := t; ⟨ps, s _ _ h1, h2⟩, fun b o _ e => s b o e⟩
mutual
theorem Tr.gr {P : Addr} {H H' : Hp} (t : GxR.TabG H P) (g : Gr P H H') : ∀ {v : V} {d : PyData}, Tr H v d → Tr H' v d
  | _, _, .non => .non
  | _, _, .bl b => .bl b
  | _, _, .int i => .int i
  | _, _, .str x => .str x
  | _, _, .lst h a => .lst (g.2 _ _ (let ⟨_, z, _⟩ := t; ne_of h z (by intro y; cases y)) h) (TrAll.gr t g a)
  | _, _, .tup h a => .tup (g.2 _ _ (let ⟨_, z, _⟩ := t; ne_of h z (by intro y; cases y)) h) (TrAll.gr t g a)
  | _, _, .dct h n e a => .dct (g.2 _ _ (let ⟨_, z, _⟩ := t; ne_of h z (by intro y; cases y)) h) n e (TrAll.gr t g a)
theorem TrAll.gr {P : Addr} {H H' : Hp} (t : GxR.TabG H P) (g : Gr P H H') : ∀ {vs : List V} {ds : List PyData}, TrAll H vs ds → TrAll H' vs ds
  | _, _, .nil => .nil
  | _, _, .cons h u => .cons (Tr.gr t g h) (TrAll.gr t g u)
end
def spIsName (P : Addr) : Sp := fun vs H Q _ => ∃ (x : V) (d : PyData), vs = [x] ∧ Tr H x d ∧ GxR.TabG H P ∧ (∀ z, d = .str z → z.length ≤ sizeLine) ∧ ∀ H', Gr P H H' → Q (.bl (nameD d)) H'
section
variable {P : Program} {w : World} {K : PySem.W.Frag} {mg : Str → Option Value} {base : Heap} {W S R : Addr}
theorem wholeD_int (lo hi i : Int) : wholeD lo hi (.int i) = (decide (lo ≤ i) && decide (i ≤ hi)) := rfl
theorem scWhole : FnScope ["thing", "low", "high"] ["thing", "low", "high"] (defScope sWhole) := ⟨rfl, rfl, rfl, by decide +kernel, rfl, by decide +kernel, by decide +kernel⟩
theorem ok_whole {f : Addr} {fd : FuncData} (F : Fun K "is_whole" "is_whole" sWhole f fd) (B : BltH mg) : FnOk P w K mg base CX0 1 f fd ["thing", "low", "high"] spWhole := by
  refine F.ok scWhole (fun vs H Q E h => ?_) (fun cdv A outer s H vs Q E hr h => ?_)
  · obtain ⟨x, d, lo, hi, rfl, _⟩ := h
    rfl
  obtain ⟨x, d, lo, hi, rfl, t, k⟩ := h
  refine ⟨_, pss_cons (ps_if (PW.pt (pw_or (pt_val (pe_callB call_isT (by rfl) B.isinstance (by decide +kernel) (pa_cons (pv 0) (pa_cons (pe_bltn (v := .ty "bool") (by rfl) B.bool (by decide +kernel) rfl) pa_nil))))
      (pw_or1 (pt_not (pt_val (pe_callB call_isT (by rfl) B.isinstance (by decide +kernel) (pa_cons (pv 0) (pa_cons (pe_bltn (v := .ty "int") (by rfl) B.int (by decide +kernel) rfl) pa_nil)))))))) (pss_one (ps_ret pe_bl)) pss_nil) <|
    pss_one (ps_ret (pe_chain op_le op_le (pv 1) (pv 0) (pv 2))), ?_⟩
  refine ⟨_, rfl, x, "bool", d, isB, rfl, kB, t, _, rfl, ?_⟩
  have no : isI d = false → wholeD lo hi d = false → (H : Hp) → Tr H x d → True := fun _ _ _ _ => trivial
  cases t with
  | int i =>
    refine iteF ?_
    refine ⟨_, rfl, _, "int", _, isI, rfl, kI, .int i, _, rfl, iteF ?_⟩
    refine ⟨_, rfl, _, rfl, _, _, rfl, rfl, _, rfl, ?_⟩
    refine ite2 (fun c => ?_) (fun c => ?_)
    · refine ⟨_, rfl, _, _, rfl, rfl, ?_⟩
      have e : wholeD lo hi (.int i) = decide (i ≤ hi) := by rw [wholeD_int, c]; rfl
      rw [e] at k
      exact k
    · have e : wholeD lo hi (.int i) = false := by rw [wholeD_int, Bool.eq_false_iff.mpr c]; rfl
      rw [e] at k
      exact k
  | bl b => exact iteT k
  | non => exact iteF ⟨_, rfl, _, "int", _, isI, rfl, kI, .non, _, rfl, iteT k⟩
  | str z => exact iteF ⟨_, rfl, _, "int", _, isI, rfl, kI, .str z, _, rfl, iteT k⟩
  | lst h a => exact iteF ⟨_, rfl, _, "int", _, isI, rfl, kI, .lst h a, _, rfl, iteT k⟩
  | tup h a => exact iteF ⟨_, rfl, _, "int", _, isI, rfl, kI, .tup h a, _, rfl, iteT k⟩
  | dct h n e a => exact iteF ⟨_, rfl, _, "int", _, isI, rfl, kI, .dct h n e a, _, rfl, iteT k⟩
theorem scTupOf : FnScope ["thing", "least", "most"] ["thing", "least", "most"] (defScope sTupOf) := ⟨rfl, rfl, rfl, by decide +kernel, rfl, by decide +kernel, by decide +kernel⟩
theorem ok_tupOf {f : Addr} {fd : FuncData} (F : Fun K "is_tuple_of" "is_tuple_of" sTupOf f fd) (B : BltH mg) : FnOk P w K mg base CX0 1 f fd ["thing", "least", "most"] spTupOf := by
  refine F.ok scTupOf (fun vs H Q E h => ?_) (fun cdv A outer s H vs Q E hr h => ?_)
  · obtain ⟨x, d, lo, hi, rfl, _⟩ := h
    rfl
  obtain ⟨x, d, lo, hi, rfl, t, k⟩ := h
  refine ⟨_, pss_one (ps_ret (pe_and (pe_callB call_isT (by rfl) B.isinstance (by decide +kernel) (pa_cons (pv 0) (pa_cons (pe_bltn (v := .ty "tuple") (by rfl) B.tuple (by decide +kernel) rfl) pa_nil)))
    (pe_one (pe_chain op_le op_le (pv 1) (pe_callB call_len_seq (by rfl) B.len PySem.boot_len (pa_cons (pv 0) pa_nil)) (pv 2))))), ?_⟩
  refine ⟨_, rfl, x, "tuple", d, isTup, rfl, kT, t, _, rfl, ?_⟩
  cases t with
  | @tup a xs ds h al =>
    refine iteT ?_
    have el := al.length
    refine ⟨_, rfl, _, rfl, a, _, rfl, .inr (SqT.of h), _, _, rfl, rfl, _, rfl, ?_⟩
    refine ite2 (fun c => ?_) (fun c => ?_)
    · refine ⟨_, rfl, _, _, rfl, rfl, ?_⟩
      have e : tupD lo hi (.tuple ds) = decide (((xs.length : Nat) : Int) ≤ hi) := by show (decide (lo ≤ ((ds.length : Nat) : Int)) && decide (((ds.length : Nat) : Int) ≤ hi)) = _; rw [← el, c]; rfl
      rw [e] at k
      exact k
    · have e : tupD lo hi (.tuple ds) = false := by show (decide (lo ≤ ((ds.length : Nat) : Int)) && decide (((ds.length : Nat) : Int) ≤ hi)) = _; rw [← el, Bool.eq_false_iff.mpr c]; rfl
      rw [e] at k
      exact k
  | int i => exact iteF k
  | bl b => exact iteF k
  | non => exact iteF k
  | str z => exact iteF k
  | lst h a => exact iteF k
  | dct h n e a => exact iteF k
theorem scPrice : FnScope ["thing"] ["thing"] (defScope sPrice) := ⟨rfl, rfl, rfl, by decide +kernel, rfl, by decide +kernel, by decide +kernel⟩
theorem ok_price {f g : Addr} {fd gd : FuncData} (F : Fun K "is_price" "is_price" sPrice f fd) (G : FnOk P w K mg base CX0 1 g gd ["thing", "low", "high"] spWhole) (bG : Binds K gd ["thing", "low", "high"] []) (kG : PySem.W.keepIn K (.ref g) = true) (mG : mg "is_whole" = some (.ref g)) (C : Cons K mg W S R) : FnOk P w K mg base CX0 2 f fd ["thing"] spPrice := by
  refine F.ok scPrice (fun vs H Q E h => ?_) (fun cdv A outer s H vs Q E hr h => ?_)
  · obtain ⟨x, d, rfl, _⟩ := h
    rfl
  obtain ⟨x, d, rfl, t, k⟩ := h
  obtain ⟨tk, hdear⟩ := C.dear
  refine ⟨_, pss_one (ps_ret (pe_call G hr rfl mG kG bG .nil pass0 (pa_cons (pv 0) (pa_cons pe_int (pa_cons (pe_glob (v := .int 1000000) (by rfl) hdear ⟨_, rfl⟩) pa_nil))))), ?_⟩
  exact ⟨_, rfl, x, d, 1, 1000000, rfl, t, k⟩
/-- the scope of the generator expression over a name's signs -/
def scSign : Scope := { kind := .function, names := [((".0" : Str), NameKind.local), (("sign" : Str), NameKind.local)], isGenerator := true, isCoroutine := false }
theorem gsSign (env : Env) : GxR.GenS env scSign "sign" := by
  refine ⟨rfl, rfl, by decide +kernel, rfl, rfl, fun y hy e => ?_⟩
  have z : y = ((".0" : Str), NameKind.local) ∨ y = (("sign" : Str), NameKind.local) := by simpa [scSign] using hy
  rcases z with z | z
  · rw [z] at e
    cases e
  · rw [z] at e
    cases e
theorem nameD_str (z : Str) : nameD (.str z) = (decide ((1 : Int) ≤ (z.length : Int)) && (decide ((z.length : Int) ≤ 8) && z.cps.toList.all smallC)) := rfl
theorem scIsName : FnScope ["thing"] ["thing"] (defScope sIsName) := ⟨rfl, rfl, rfl, by decide +kernel, rfl, by decide +kernel, by decide +kernel⟩
theorem ok_isName {f c Pt : Addr} {oc : Value} {od an : Option Addr} {osl : Array (Option Value)} {kV doc pm ct : Value} (lk : K.lookup f = some ⟨oc, od, .func (PySem.W.fnOf "is_name" "is_name" (defArgs sIsName) (defBody sIsName) (defScope sIsName) .none kV doc pm an (.ref c) ct), osl⟩) (hcd : PySem.W.codeIn K (.ref c) "is_name" = true)
    (TB : GxR.TabB base mg c Pt) (C : Cons K mg W S R) (B : BltH mg) : FnOk P w K mg base CX0 2 f (PySem.W.fnOf "is_name" "is_name" (defArgs sIsName) (defBody sIsName) (defScope sIsName) .none kV doc pm an (.ref c) ct) ["thing"] (spIsName Pt) := by
  refine fn_of lk hcd scIsName (fun vs H Q E h => ?_) (fun A outer s H vs Q E hr h => ?_)
  · obtain ⟨x, d, rfl, _⟩ := h
    rfl
  obtain ⟨x, d, rfl, t, tg, hz, k⟩ := h
  obtain ⟨tk, hlong⟩ := C.long
  refine ⟨_, PSs.nox (pss_cons (ps_if (PW.pt (pw_or (pt_not (pt_val (pe_callB call_isT (by rfl) B.isinstance (by decide +kernel) (pa_cons (pv 0) (pa_cons (pe_bltn (v := .ty "str") (by rfl) B.str (by decide +kernel) rfl) pa_nil)))))
      (pw_or1 (pt_not (pt_chain op_le op_le pe_int (pe_callB call_len_str (by rfl) B.len PySem.boot_len (pa_cons (pv 0) pa_nil)) (pe_glob (v := .int 8) (by rfl) hlong ⟨_, rfl⟩)))))) (pss_one (ps_ret pe_bl)) pss_nil) <|
    pss_one (ps_ret (GxR.pe_allS hr (by rfl) B.all (by decide +kernel) TB rfl (gsSign _) (pv 0) (elt_az rfl rfl) (fun _ => rfl)))), ?_⟩
  refine ⟨_, rfl, x, "str", d, isStr, rfl, kS, t, _, rfl, ?_⟩
  cases t with
  | str z =>
    refine iteF ?_
    have hz := hz z rfl
    refine ⟨_, rfl, _, rfl, hz, _, _, rfl, rfl, _, rfl, ?_⟩
    refine ite2 (fun c1 => ?_) (fun c1 => ?_)
    · refine ⟨_, _, rfl, rfl, _, rfl, ?_⟩
      cases c2 : decide ((z.length : Int) ≤ 8) with
      | true =>
        refine iteF ⟨_, rfl, z, rfl, tg, fun H2 tb => ?_⟩
        have e : nameD (.str z) = z.cps.toList.all smallC := by rw [nameD_str, c1, c2]; rfl
        have q := k H2 (Gr.of tb)
        rw [e] at q
        exact q
      | false =>
        have e : nameD (.str z) = false := by rw [nameD_str, c1, c2]; rfl
        have q := k H (Gr.refl tg)
        rw [e] at q
        exact iteT q
    · have e : nameD (.str z) = false := by rw [nameD_str, Bool.eq_false_iff.mpr c1]; rfl
      have q := k H (Gr.refl tg)
      rw [e] at q
      exact ⟨_, rfl, iteT q⟩
  | int i => exact iteT (k H (Gr.refl tg))
  | bl b => exact iteT (k H (Gr.refl tg))
  | non => exact iteT (k H (Gr.refl tg))
  | tup h a => exact iteT (k H (Gr.refl tg))
  | lst h a => exact iteT (k H (Gr.refl tg))
  | dct h n e a => exact iteT (k H (Gr.refl tg))
end
end Pk
namespace Pk
open PySem L2
mutual
/-- texts in it are not too long -/
def okS : PyData → Bool
  | .str z => decide (z.length ≤ 100000)
  | .list xs | .tuple xs => okSs xs
  | .dict es => okKv es
  | .none | .bool _ | .int _ => true
def okSs : List PyData → Bool
  | [] => true
  | x :: xs => okS x && okSs xs
def okKv : List (PyData × PyData) → Bool
  | [] => true
  | (_, x) :: xs => okS x && okKv xs
end
theorem okSs_get : ∀ {ds : List PyData} {i : Nat} {d : PyData}, okSs ds = true → ds[i]? = some d → okS d = true
  | [], i, d, _, h => by simp at h
  | x :: xs, 0, d, e, h => by
    cases (show some x = some d from h)
    rw [okSs, Bool.and_eq_true] at e
    exact e.1
  | x :: xs, i + 1, d, e, h => by
    rw [okSs, Bool.and_eq_true] at e
    exact okSs_get (i := i) e.2 h
theorem okS_str {d : PyData} (h : okS d = true) : ∀ z, d = .str z → z.length ≤ sizeLine := fun z e => by
  subst e
  simp only [okS, decide_eq_true_eq] at h
  have := sizeLine_eq
  omega
theorem tupD6 {d : PyData} (h : tupD 6 6 d = true) : ∃ a b c e f g, d = .tuple [a, b, c, e, f, g] := by
  cases d with
  | tuple ds =>
    simp only [tupD, Bool.and_eq_true, decide_eq_true_eq] at h
    match ds, h with
    | [a, b, c, e, f, g], _ => exact ⟨a, b, c, e, f, g, rfl⟩
    | [], h => simp at h
    | [_], h => simp at h
    | [_, _], h => simp at h
    | [_, _, _], h => simp at h
    | [_, _, _, _], h => simp at h
    | [_, _, _, _, _], h => simp at h
    | _ :: _ :: _ :: _ :: _ :: _ :: _ :: _, h => simp at h; omega
  | _ => cases h
theorem tupD_not6 {d : PyData} (h : tupD 6 6 d = false) : dialD d = false := by
  unfold dialD
  split
  · cases (show true = false from h)
  · rfl
def spIsDial (Pt : Addr) : Sp := fun vs H Q _ => ∃ (x : V) (d : PyData), vs = [x] ∧ Tr H x d ∧ GxR.TabG H Pt ∧ okS d = true ∧ ∀ H', Gr Pt H H' → Q (.bl (dialD d)) H'
section
variable {P : Program} {w : World} {K : PySem.W.Frag} {mg : Str → Option Value} {base : Heap} {W S R Pt : Addr}
theorem scIsDial : FnScope ["thing", "name", "low", "high", "way", "up", "down"] ["thing"] (defScope sIsDial) := ⟨rfl, rfl, rfl, by decide +kernel, rfl, by decide +kernel, by decide +kernel⟩
theorem ok_isDial {f g1 g2 g3 g4 : Addr} {fd d1 d2 d3 d4 : FuncData} (F : Fun K "is_dial" "is_dial" sIsDial f fd)
    (G1 : FnOk P w K mg base CX0 1 g1 d1 ["thing", "low", "high"] spWhole) (b1 : Binds K d1 ["thing", "low", "high"] []) (k1 : PySem.W.keepIn K (.ref g1) = true) (m1 : mg "is_whole" = some (.ref g1))
    (G2 : FnOk P w K mg base CX0 1 g2 d2 ["thing", "least", "most"] spTupOf) (b2 : Binds K d2 ["thing", "least", "most"] []) (k2 : PySem.W.keepIn K (.ref g2) = true) (m2 : mg "is_tuple_of" = some (.ref g2))
    (G3 : FnOk P w K mg base CX0 2 g3 d3 ["thing"] (spIsName Pt)) (b3 : Binds K d3 ["thing"] []) (k3 : PySem.W.keepIn K (.ref g3) = true) (m3 : mg "is_name" = some (.ref g3))
    (G4 : FnOk P w K mg base CX0 2 g4 d4 ["thing"] spPrice) (b4 : Binds K d4 ["thing"] []) (k4 : PySem.W.keepIn K (.ref g4) = true) (m4 : mg "is_price" = some (.ref g4))
    (C : Cons K mg W S R) : FnOk P w K mg base CX0 3 f fd ["thing"] (spIsDial Pt) := by
  refine F.ok scIsDial (fun vs H Q E h => ?_) (fun cdv A outer s H vs Q E hr h => ?_)
  · obtain ⟨x, d, rfl, _⟩ := h
    rfl
  obtain ⟨x, d, rfl, t, tg, hz, k⟩ := h
  obtain ⟨tf, hfar⟩ := C.far
  have hu := hu_of hr
  have hr1 : Room 1 _ := hr.mono (by decide)
  refine ⟨_, pss_cons (ps_if (pt_not (pt_val (pe_call G2 hr1 rfl m2 k2 b2 .nil pass0 (pa_cons (pv 0) (pa_cons pe_int (pa_cons pe_int pa_nil)))))) (pss_one (ps_ret pe_bl)) pss_nil) <|
    pss_cons (ps_asg (pv 0) (pg_tup (by rfl) (pgs_cons (pg_name (i := 1) scIsDial.nd rfl (.inl rfl)) <| pgs_cons (pg_name (i := 2) scIsDial.nd rfl (.inl rfl)) <| pgs_cons (pg_name (i := 3) scIsDial.nd rfl (.inl rfl)) <|
      pgs_cons (pg_name (i := 4) scIsDial.nd rfl (.inl rfl)) <| pgs_cons (pg_name (i := 5) scIsDial.nd rfl (.inl rfl)) <| pgs_cons (pg_name (i := 6) scIsDial.nd rfl (.inl rfl)) pgs_nil))) <|
    pss_cons (ps_if (PW.pt (pw_or (pt_not (pt_val (pe_call G3 hr rfl m3 k3 b3 .nil pass0 (pa_cons (pv 1) pa_nil)))) (pw_or1 (pt_cmpR (op_notInS hu) (pv 4) (pe_glob (v := .ref W) (by rfl) C.mW rfl) (by rfl))))) (pss_one (ps_ret pe_bl)) pss_nil) <|
    pss_cons (ps_if (PW.pt (pw_or (pt_not (pt_val (pe_call G1 hr1 rfl m1 k1 b1 .nil pass0 (pa_cons (pv 2) (pa_cons (pe_un un_neg (pe_glob (v := .int farS) (by rfl) hfar ⟨_, rfl⟩)) (pa_cons (pe_glob (v := .int farS) (by rfl) hfar ⟨_, rfl⟩) pa_nil))))))
      (pw_or1 (pt_not (pt_val (pe_call G1 hr1 rfl m1 k1 b1 .nil pass0 (pa_cons (pv 3) (pa_cons (pv 2) (pa_cons (pe_glob (v := .int farS) (by rfl) hfar ⟨_, rfl⟩) pa_nil))))))))) (pss_one (ps_ret pe_bl)) pss_nil) <|
    pss_one (ps_ret (pe_and (pe_call G4 hr rfl m4 k4 b4 .nil pass0 (pa_cons (pv 5) pa_nil)) (pe_one (pe_call G4 hr rfl m4 k4 b4 .nil pass0 (pa_cons (pv 6) pa_nil))))), ?_⟩
  refine ⟨_, rfl, x, d, 6, 6, rfl, t, _, rfl, ?_⟩
  cases c1 : tupD 6 6 d with
  | false =>
    have q := k H (Gr.refl tg)
    rw [tupD_not6 c1] at q
    exact iteT q
  | true =>
    refine iteF ?_
    obtain ⟨da, db, dc, dd, de, df, rfl⟩ := tupD6 c1
    cases t with
    | @tup a xs _ h al =>
    match xs, al with
    | [xa, xb, xc, xd, xe, xf], .cons ta (.cons tb (.cons tc (.cons td (.cons te (.cons tf' .nil))))) =>
    simp only [okS, okSs, Bool.and_eq_true] at hz
    refine ⟨_, rfl, a, _, rfl, SqT.of h, rfl, ?_⟩
    refine ⟨_, _, rfl, _, _, rfl, _, _, rfl, _, _, rfl, _, _, rfl, _, _, rfl, rfl, ?_⟩
    refine ⟨_, rfl, xa, da, rfl, ta, tg, okS_str hz.1, fun H1 gr => ⟨_, rfl, ?_⟩⟩
    have q := k H1 gr
    have tg1 := gr.1
    have ed : dialD (.tuple [da, db, dc, dd, de, df]) = (nameD da && (inS ways3 dd && dialR db dc de df)) := rfl
    rw [ed] at q
    cases c2 : nameD da with
    | false =>
      rw [c2] at q
      exact iteT q
    | true =>
      rw [c2] at q
      refine iteF ?_
      refine ⟨_, rfl, dd, W, _, td.gr tg gr, rfl, .inr (C.ways H1), _, rfl, ?_⟩
      have q : Q (.bl (inS ways3 dd && dialR db dc de df)) H1 := q
      cases c3 : inS ways3 dd with
      | false =>
        rw [c3] at q
        have c3' : (ways3.any fun z => strIs z dd) = false := c3
        rw [c3']
        exact iteT q
      | true =>
        rw [c3] at q
        have c3' : (ways3.any fun z => strIs z dd) = true := c3
        rw [c3']
        refine iteF ?_
        refine ⟨_, rfl, _, rfl, xb, db, -farS, farS, rfl, tb.gr tg gr, _, rfl, ?_⟩
        cases c4 : wholeD (-farS) farS db with
        | false =>
          have e : dialR db dc de df = false := by
            cases db with
            | int l =>
              show (wholeD (-farS) farS (.int l) && _) = false
              rw [c4]
              rfl
            | _ => rfl
          rw [e] at q
          exact iteT q
        | true =>
          refine iteF ?_
          cases tb with
          | int l =>
            have q : Q (.bl (wholeD (-farS) farS (.int l) && (wholeD l farS dc && (wholeD 1 1000000 de && wholeD 1 1000000 df)))) H1 := q
            rw [c4] at q
            have q : Q (.bl (wholeD l farS dc && (wholeD 1 1000000 de && wholeD 1 1000000 df))) H1 := q
            refine ⟨_, rfl, _, rfl, xc, dc, l, farS, rfl, tc.gr tg gr, _, rfl, ?_⟩
            cases c5 : wholeD l farS dc with
            | false =>
              rw [c5] at q
              exact iteT q
            | true =>
              rw [c5] at q
              have q : Q (.bl (wholeD 1 1000000 de && wholeD 1 1000000 df)) H1 := q
              refine iteF ⟨_, rfl, xe, de, rfl, te.gr tg gr, _, rfl, ?_⟩
              cases c6 : wholeD 1 1000000 de with
              | false =>
                rw [c6] at q
                exact iteF q
              | true =>
                rw [c6] at q
                exact iteT ⟨_, rfl, xf, df, rfl, tf'.gr tg gr, q⟩
          | non => cases c4
          | bl b => cases c4
          | str z => cases c4
          | lst _ _ => cases c4
          | tup _ _ => cases c4
          | dct _ _ _ _ => cases c4
end
end Pk
namespace Pk
open PySem L2
theorem walk_enumT {K : PySem.W.Frag} {a : Addr} {xs : List V} : Walk (IteT K a) xs.length (fun H => SqT K H a xs) (YPair (fun i => some (.int (i : Nat))) (fun i => xs[i]?)) where
  goes := fun i H hi h => ⟨xs, xs[i], h, by simp [hi]⟩
  stops := fun H h => ⟨xs, h, Nat.le_refl _⟩
  yields := fun i H x H' hi h ⟨T, y, e1, e2, e3, e4⟩ => ⟨T, .int (i : Nat), y, e1, e2, e3, rfl, e4 xs h⟩
theorem tupD3 {d : PyData} (h : tupD 3 3 d = true) : ∃ a b c, d = .tuple [a, b, c] := by
  cases d with
  | tuple ds =>
    simp only [tupD, Bool.and_eq_true, decide_eq_true_eq] at h
    match ds, h with
    | [a, b, c], _ => exact ⟨a, b, c, rfl⟩
    | [], h => simp at h
    | [_], h => simp at h
    | [_, _], h => simp at h
    | _ :: _ :: _ :: _ :: _, h => simp at h; omega
  | _ => cases h
theorem tupD4 {d : PyData} (h : tupD 4 4 d = true) : ∃ a b c e, d = .tuple [a, b, c, e] := by
  cases d with
  | tuple ds =>
    simp only [tupD, Bool.and_eq_true, decide_eq_true_eq] at h
    match ds, h with
    | [a, b, c, e], _ => exact ⟨a, b, c, e, rfl⟩
    | [], h => simp at h
    | [_], h => simp at h
    | [_, _], h => simp at h
    | [_, _, _], h => simp at h
    | _ :: _ :: _ :: _ :: _ :: _, h => simp at h; omega
  | _ => cases h
theorem tupD2 {d : PyData} (h : tupD 2 2 d = true) : ∃ a b, d = .tuple [a, b] := by
  cases d with
  | tuple ds =>
    simp only [tupD, Bool.and_eq_true, decide_eq_true_eq] at h
    match ds, h with
    | [a, b], _ => exact ⟨a, b, rfl⟩
    | [], h => simp at h
    | [_], h => simp at h
    | _ :: _ :: _ :: _, h => simp at h; omega
  | _ => cases h
theorem sayD_not {ns : List Str} {d : PyData} (h : tupD 3 3 d = false) : sayingD ns d = false := by
  unfold sayingD
  split
  · cases (show true = false from h)
  · rfl
theorem inS_str {zs : List Str} {d : PyData} (h : inS zs d = true) : ∃ z, d = .str z := by
  unfold inS at h
  obtain ⟨z, _, hz⟩ := List.any_eq_true.mp h
  cases d with
  | str y => exact ⟨y, rfl⟩
  | _ => cases hz
def spIsSaying : Sp := fun vs H Q _ => ∃ (a : Addr) (ns : List Str) (x : V) (d : PyData), vs = [.ref a, x] ∧ H a = some (.lst (ns.map V.str)) ∧ Tr H x d ∧ Q (.bl (sayingD ns d)) H
def spIsRule : Sp := fun vs H Q _ => ∃ (a : Addr) (ns : List Str) (x : V) (d : PyData), vs = [.ref a, x] ∧ H a = some (.lst (ns.map V.str)) ∧ Tr H x d ∧ Q (.bl (ruleD ns d)) H
def spForm : Sp := fun vs H Q _ => ∃ (x : V) (d : PyData), vs = [x] ∧ Tr H x d ∧ Q (.bl (formD d)) H
section
variable {P : Program} {w : World} {K : PySem.W.Frag} {mg : Str → Option Value} {base : Heap} {W S R Pt : Addr}
theorem scIsSaying : FnScope ["names", "thing", "name", "sort", "i"] ["names", "thing"] (defScope sIsSaying) := ⟨rfl, rfl, rfl, by decide +kernel, rfl, by decide +kernel, by decide +kernel⟩
theorem ok_isSaying {f g1 g2 : Addr} {fd d1 d2 : FuncData} (F : Fun K "is_saying" "is_saying" sIsSaying f fd)
    (G1 : FnOk P w K mg base CX0 1 g1 d1 ["thing", "low", "high"] spWhole) (b1 : Binds K d1 ["thing", "low", "high"] []) (k1 : PySem.W.keepIn K (.ref g1) = true) (m1 : mg "is_whole" = some (.ref g1))
    (G2 : FnOk P w K mg base CX0 1 g2 d2 ["thing", "least", "most"] spTupOf) (b2 : Binds K d2 ["thing", "least", "most"] []) (k2 : PySem.W.keepIn K (.ref g2) = true) (m2 : mg "is_tuple_of" = some (.ref g2))
    (C : Cons K mg W S R) : FnOk P w K mg base CX0 2 f fd ["names", "thing"] spIsSaying := by
  refine F.ok scIsSaying (fun vs H Q E h => ?_) (fun cdv A outer s H vs Q E hr h => ?_)
  · obtain ⟨a, ns, x, d, rfl, _⟩ := h
    rfl
  obtain ⟨a, ns, x, d, rfl, hns, t, q⟩ := h
  obtain ⟨tf, hgr⟩ := C.great
  have hu := hu_of hr
  refine ⟨_, pss_cons (ps_if (pt_not (pt_val (pe_call G2 hr rfl m2 k2 b2 .nil pass0 (pa_cons (pv 1) (pa_cons pe_int (pa_cons pe_int pa_nil)))))) (pss_one (ps_ret pe_bl)) pss_nil) <|
    pss_cons (ps_asg (pv 1) (pg_tup (by rfl) (pgs_cons (pg_name (i := 2) scIsSaying.nd rfl (.inl rfl)) <| pgs_cons (pg_name (i := 3) scIsSaying.nd rfl (.inl rfl)) <| pgs_cons (pg_name (i := 4) scIsSaying.nd rfl (.inl rfl)) pgs_nil))) <|
    pss_one (ps_ret (pe_and (pe_cmpR (op_inS hu) (pv 2) (pv 0) (by rfl)) (pe_and (pe_cmpR (op_inS hu) (pv 3) (pe_glob (v := .ref S) (by rfl) C.mS rfl) (by rfl))
      (pe_one (pe_call G1 hr rfl m1 k1 b1 .nil pass0 (pa_cons (pv 4) (pa_cons (pe_un un_neg (pe_glob (v := .int greatS) (by rfl) hgr ⟨_, rfl⟩)) (pa_cons (pe_glob (v := .int greatS) (by rfl) hgr ⟨_, rfl⟩) pa_nil)))))))), ?_⟩
  refine ⟨_, rfl, x, d, 3, 3, rfl, t, _, rfl, ?_⟩
  cases c1 : tupD 3 3 d with
  | false =>
    rw [sayD_not c1] at q
    exact iteT q
  | true =>
    refine iteF ?_
    obtain ⟨da, db, dc, rfl⟩ := tupD3 c1
    cases t with
    | @tup b xs _ h al =>
    match xs, al with
    | [xa, xb, xc], .cons ta (.cons tb (.cons tc .nil)) =>
    refine ⟨_, rfl, b, _, rfl, SqT.of h, rfl, _, _, rfl, _, _, rfl, _, _, rfl, rfl, ?_⟩
    have q : Q (.bl (inS ns da && (inS sorts2 db && wholeD (-greatS) greatS dc))) H := q
    refine ⟨_, rfl, _, rfl, da, a, ns, ta, rfl, .inl (SqL.of hns), _, rfl, ?_⟩
    cases c2 : inS ns da with
    | false =>
      rw [c2] at q
      have c2' : (ns.any fun z => strIs z da) = false := c2
      rw [c2']
      exact iteF q
    | true =>
      rw [c2] at q
      have c2' : (ns.any fun z => strIs z da) = true := c2
      rw [c2']
      have q : Q (.bl (inS sorts2 db && wholeD (-greatS) greatS dc)) H := q
      refine iteT ⟨_, rfl, db, S, _, tb, rfl, .inr (C.sorts H), _, rfl, ?_⟩
      cases c3 : inS sorts2 db with
      | false =>
        rw [c3] at q
        have c3' : (sorts2.any fun z => strIs z db) = false := c3
        rw [c3']
        exact iteF q
      | true =>
        rw [c3] at q
        have c3' : (sorts2.any fun z => strIs z db) = true := c3
        rw [c3']
        exact iteT ⟨_, rfl, _, rfl, xc, dc, -greatS, greatS, rfl, tc, q⟩
theorem scIsRule : FnScope ["names", "thing", "word", "first", "second", "a", "b", "c"] ["names", "thing"] (defScope sIsRule) := ⟨rfl, rfl, rfl, by decide +kernel, rfl, by decide +kernel, by decide +kernel⟩
theorem ok_isRule {f g1 g2 g3 : Addr} {fd d1 d2 d3 : FuncData} (F : Fun K "is_rule" "is_rule" sIsRule f fd)
    (G1 : FnOk P w K mg base CX0 1 g1 d1 ["thing", "low", "high"] spWhole) (b1 : Binds K d1 ["thing", "low", "high"] []) (k1 : PySem.W.keepIn K (.ref g1) = true) (m1 : mg "is_whole" = some (.ref g1))
    (G2 : FnOk P w K mg base CX0 1 g2 d2 ["thing", "least", "most"] spTupOf) (b2 : Binds K d2 ["thing", "least", "most"] []) (k2 : PySem.W.keepIn K (.ref g2) = true) (m2 : mg "is_tuple_of" = some (.ref g2))
    (G3 : FnOk P w K mg base CX0 2 g3 d3 ["names", "thing"] spIsSaying) (b3 : Binds K d3 ["names", "thing"] []) (k3 : PySem.W.keepIn K (.ref g3) = true) (m3 : mg "is_saying" = some (.ref g3))
    (C : Cons K mg W S R) : FnOk P w K mg base CX0 3 f fd ["names", "thing"] spIsRule := by
  refine F.ok scIsRule (fun vs H Q E h => ?_) (fun cdv A outer s H vs Q E hr h => ?_)
  · obtain ⟨a, ns, x, d, rfl, _⟩ := h
    rfl
  obtain ⟨a, ns, x, d, rfl, hns, t, q⟩ := h
  obtain ⟨tf, hgr⟩ := C.great
  have hu := hu_of hr
  have hr1 : Room 1 _ := hr.mono (by decide)
  refine ⟨_, pss_cons (ps_if (pt_val (pe_call G2 hr1 rfl m2 k2 b2 .nil pass0 (pa_cons (pv 1) (pa_cons pe_int (pa_cons pe_int pa_nil)))))
      (pss_cons (ps_asg (pv 1) (pg_tup (by rfl) (pgs_cons (pg_name (i := 2) scIsRule.nd rfl (.inl rfl)) <| pgs_cons (pg_name (i := 3) scIsRule.nd rfl (.inl rfl)) <| pgs_cons (pg_name (i := 4) scIsRule.nd rfl (.inl rfl)) pgs_nil)))
      (pss_one (ps_ret (pe_and (pe_cmpR (op_eqS hu) (pv 2) pe_str (nomark _)) (pe_and (pe_call G3 hr rfl m3 k3 b3 .nil pass0 (pa_cons (pv 0) (pa_cons (pv 3) pa_nil))) (pe_one (pe_call G3 hr rfl m3 k3 b3 .nil pass0 (pa_cons (pv 0) (pa_cons (pv 4) pa_nil))))))))) pss_nil) <|
    pss_cons (ps_if (pt_val (pe_call G2 hr1 rfl m2 k2 b2 .nil pass0 (pa_cons (pv 1) (pa_cons pe_int (pa_cons pe_int pa_nil)))))
      (pss_cons (ps_asg (pv 1) (pg_tup (by rfl) (pgs_cons (pg_name (i := 2) scIsRule.nd rfl (.inl rfl)) <| pgs_cons (pg_name (i := 5) scIsRule.nd rfl (.inl rfl)) <| pgs_cons (pg_name (i := 6) scIsRule.nd rfl (.inl rfl)) <| pgs_cons (pg_name (i := 7) scIsRule.nd rfl (.inl rfl)) pgs_nil)))
      (pss_cons (ps_if (PW.pt (pw_or (pt_cmpR (op_notInS hu) (pv 2) (pe_glob (v := .ref R) (by rfl) C.mR rfl) (by rfl)) (pw_or (pt_cmpR (op_notInS hu) (pv 5) (pv 0) (by rfl)) (pw_or1 (pt_cmpR (op_notInS hu) (pv 6) (pv 0) (by rfl)))))) (pss_one (ps_ret pe_bl)) pss_nil)
      (pss_one (ps_ret (pe_and (pe_cmpR op_ne (pv 5) (pv 6) (nomark _)) (pe_one (pe_call G1 hr1 rfl m1 k1 b1 .nil pass0 (pa_cons (pv 7) (pa_cons (pe_un un_neg (pe_glob (v := .int greatS) (by rfl) hgr ⟨_, rfl⟩)) (pa_cons (pe_glob (v := .int greatS) (by rfl) hgr ⟨_, rfl⟩) pa_nil)))))))))) pss_nil) <|
    pss_one (ps_ret pe_bl), ?_⟩
  refine ⟨_, rfl, x, d, 3, 3, rfl, t, _, rfl, ?_⟩
  cases c1 : tupD 3 3 d with
  | true =>
    refine iteT ?_
    obtain ⟨da, db, dc, rfl⟩ := tupD3 c1
    cases t with
    | @tup b xs _ h al =>
    match xs, al with
    | [xa, xb, xc], .cons ta (.cons tb (.cons tc .nil)) =>
    refine ⟨_, rfl, b, _, rfl, SqT.of h, rfl, _, _, rfl, _, _, rfl, _, _, rfl, rfl, ?_⟩
    have q : Q (.bl (strIs "one" da && (sayingD ns db && sayingD ns dc))) H := q
    refine ⟨_, rfl, da, "one", ta, rfl, _, rfl, ?_⟩
    cases c2 : strIs "one" da with
    | false =>
      rw [c2] at q
      exact iteF q
    | true =>
      rw [c2] at q
      have q : Q (.bl (sayingD ns db && sayingD ns dc)) H := q
      refine iteT ⟨_, rfl, _, rfl, a, ns, xb, db, rfl, hns, tb, _, rfl, ?_⟩
      cases c3 : sayingD ns db with
      | false =>
        rw [c3] at q
        exact iteF q
      | true =>
        rw [c3] at q
        exact iteT ⟨_, rfl, _, rfl, a, ns, xc, dc, rfl, hns, tc, q⟩
  | false =>
    refine iteF ?_
    refine ⟨_, rfl, x, d, 4, 4, rfl, t, _, rfl, ?_⟩
    cases c4 : tupD 4 4 d with
    | false =>
      refine iteF ?_
      have e : ruleD ns d = false := by
        unfold ruleD
        split
        · cases (show true = false from c1)
        · cases (show true = false from c4)
        · rfl
      rw [e] at q
      exact q
    | true =>
      refine iteT ?_
      obtain ⟨dw, da, db, dc, rfl⟩ := tupD4 c4
      cases t with
      | @tup b xs _ h al =>
      match xs, al with
      | [xw, xa, xb, xc], .cons tw (.cons ta (.cons tb (.cons tc .nil))) =>
      refine ⟨_, rfl, b, _, rfl, SqT.of h, rfl, _, _, rfl, _, _, rfl, _, _, rfl, _, _, rfl, rfl, ?_⟩
      have q : Q (.bl (inS pairs3 dw && (inS ns da && (inS ns db && (!sameS da db && wholeD (-greatS) greatS dc))))) H := q
      refine ⟨_, rfl, dw, R, _, tw, rfl, .inr (C.pairs H), _, rfl, ?_⟩
      cases c5 : inS pairs3 dw with
      | false =>
        rw [c5] at q
        rw [show (pairs3.any fun z => strIs z dw) = false from c5]
        exact iteT q
      | true =>
        rw [c5] at q
        rw [show (pairs3.any fun z => strIs z dw) = true from c5]
        have q : Q (.bl (inS ns da && (inS ns db && (!sameS da db && wholeD (-greatS) greatS dc)))) H := q
        refine iteF ⟨_, rfl, _, rfl, da, a, ns, ta, rfl, .inl (SqL.of hns), _, rfl, ?_⟩
        cases c6 : inS ns da with
        | false =>
          rw [c6] at q
          rw [show (ns.any fun z => strIs z da) = false from c6]
          exact iteT q
        | true =>
          rw [c6] at q
          rw [show (ns.any fun z => strIs z da) = true from c6]
          have q : Q (.bl (inS ns db && (!sameS da db && wholeD (-greatS) greatS dc))) H := q
          refine iteF ⟨_, rfl, _, rfl, db, a, ns, tb, rfl, .inl (SqL.of hns), _, rfl, ?_⟩
          cases c7 : inS ns db with
          | false =>
            rw [c7] at q
            rw [show (ns.any fun z => strIs z db) = false from c7]
            exact iteT q
          | true =>
            rw [c7] at q
            rw [show (ns.any fun z => strIs z db) = true from c7]
            have q : Q (.bl (!sameS da db && wholeD (-greatS) greatS dc)) H := q
            refine iteF ?_
            obtain ⟨za, rfl⟩ := inS_str c6
            obtain ⟨zb, rfl⟩ := inS_str c7
            cases ta with
            | str _ =>
            cases tb with
            | str _ =>
            refine ⟨_, rfl, _, rfl, rfl, _, rfl, ?_⟩
            by_cases hab : za = zb
            · subst hab
              have e : sameS (.str za) (.str za) = true := by simp [sameS]
              rw [e] at q
              rw [decide_eq_true rfl]
              exact iteF q
            · have e : sameS (.str za) (.str zb) = false := by simpa [sameS] using hab
              rw [e] at q
              rw [decide_eq_false (fun z => hab (V.str.inj z))]
              exact iteT ⟨_, rfl, _, rfl, xc, dc, -greatS, greatS, rfl, tc, q⟩
end
end Pk
namespace Pk
open PySem L2
def optV : Option Nat → V
  | none => .non
  | some k => .int (k : Nat)
def spFDial (Pt : Addr) : Sp := fun vs H Q _ => ∃ (a : Addr) (xs : List V) (ds : List PyData), vs = [.ref a] ∧ H a = some (.tup xs) ∧ TrAll H xs ds ∧ GxR.TabG H Pt ∧ okSs ds = true ∧ xs.length ≤ 1000 ∧ ∀ H', Gr Pt H H' → Q (optV (fDial 0 none ds)) H'
theorem atV {xs : List V} {i : Nat} {x : V} (h : xs[i]? = some x) : atI xs ((i : Nat) : Int) = some x := atI_nat h
/-- a dial: its first thing is its name -/
theorem dial_name {d : PyData} (h : dialD d = true) {H : Hp} {x : V} (t : Tr H x d) : ∃ b xs, x = .ref b ∧ H b = some (.tup xs) ∧ xs[0]? = some (.str (nameOf d)) := by
  unfold dialD at h
  split at h
  · rename_i n lo hi way up down
    rw [Bool.and_eq_true] at h
    cases n with
    | str z =>
      cases t with
      | @tup b xs _ hb al =>
        cases al with
        | cons t0 _ =>
          cases t0
          exact ⟨b, _, rfl, hb, rfl⟩
    | _ => cases h.1
  · cases h
/-- the name of the dial ahead of the i-th -/
def prevAt (ds : List PyData) : Nat → Option Str
  | 0 => none
  | i + 1 => (ds[i]?).map nameOf
theorem fDial_cons (k : Nat) (prev : Option Str) (d : PyData) (ds : List PyData) : fDial k prev (d :: ds) = if dialD d = true then (match prev with
      | some p => if leS (nameOf d) p = true then some k else fDial (k + 1) (some (nameOf d)) ds
      | none => fDial (k + 1) (some (nameOf d)) ds) else some k := rfl
theorem fDial_step {ds : List PyData} {i : Nat} {d : PyData} (h : ds[i]? = some d) (hd : dialD d = true) (hp : ∀ p, prevAt ds i = some p → leS (nameOf d) p = false) : fDial i (prevAt ds i) (ds.drop i) = fDial (i + 1) (prevAt ds (i + 1)) (ds.drop (i + 1)) := by
  obtain ⟨hi, e⟩ := List.getElem?_eq_some_iff.mp h
  rw [List.drop_eq_getElem_cons hi, e, fDial_cons, if_pos hd]
  have ep : prevAt ds (i + 1) = some (nameOf d) := by
    show (ds[i]?).map nameOf = _
    rw [h]
    rfl
  rw [ep]
  cases c : prevAt ds i with
  | none => rfl
  | some p =>
    show (if leS (nameOf d) p = true then some i else _) = _
    rw [hp p c, if_neg Bool.false_ne_true]
theorem fDial_bad {ds : List PyData} {i : Nat} {d : PyData} (h : ds[i]? = some d) (hd : dialD d = false) : fDial i (prevAt ds i) (ds.drop i) = some i := by
  obtain ⟨hi, e⟩ := List.getElem?_eq_some_iff.mp h
  rw [List.drop_eq_getElem_cons hi, e, fDial_cons, if_neg (by rw [hd]; exact Bool.false_ne_true)]
theorem fDial_low {ds : List PyData} {i : Nat} {d : PyData} {p : Str} (h : ds[i]? = some d) (hd : dialD d = true) (hp : prevAt ds i = some p) (hl : leS (nameOf d) p = true) : fDial i (prevAt ds i) (ds.drop i) = some i := by
  obtain ⟨hi, e⟩ := List.getElem?_eq_some_iff.mp h
  rw [List.drop_eq_getElem_cons hi, e, hp, fDial_cons, if_pos hd]
  show (if leS (nameOf d) p = true then some i else _) = _
  rw [if_pos hl]
section
variable {P : Program} {w : World} {K : PySem.W.Frag} {mg : Str → Option Value} {base : Heap} {W S R Pt : Addr}
theorem scForm : FnScope ["thing"] ["thing"] (defScope sForm) := ⟨rfl, rfl, rfl, by decide +kernel, rfl, by decide +kernel, by decide +kernel⟩
theorem ok_form {f g2 : Addr} {fd d2 : FuncData} (F : Fun K "has_house_form" "has_house_form" sForm f fd)
    (G2 : FnOk P w K mg base CX0 1 g2 d2 ["thing", "least", "most"] spTupOf) (b2 : Binds K d2 ["thing", "least", "most"] []) (k2 : PySem.W.keepIn K (.ref g2) = true) (m2 : mg "is_tuple_of" = some (.ref g2))
    (C : Cons K mg W S R) : FnOk P w K mg base CX0 2 f fd ["thing"] spForm := by
  refine F.ok scForm (fun vs H Q E h => ?_) (fun cdv A outer s H vs Q E hr h => ?_)
  · obtain ⟨x, d, rfl, _⟩ := h
    rfl
  obtain ⟨x, d, rfl, t, q⟩ := h
  obtain ⟨t1, hd⟩ := C.dials
  obtain ⟨t2, hrl⟩ := C.rules
  refine ⟨_, pss_cons (ps_if (pt_not (pt_val (pe_call G2 hr rfl m2 k2 b2 .nil pass0 (pa_cons (pv 0) (pa_cons pe_int (pa_cons pe_int pa_nil)))))) (pss_one (ps_ret pe_bl)) pss_nil) <|
    pss_one (ps_ret (pe_and (pe_call G2 hr rfl m2 k2 b2 .nil pass0 (pa_cons (pe_ix ix_tup (pv 0) pe_int (fun _ _ => rfl)) (pa_cons pe_int (pa_cons (pe_glob (v := .int 12) (by rfl) hd ⟨_, rfl⟩) pa_nil))))
      (pe_one (pe_call G2 hr rfl m2 k2 b2 .nil pass0 (pa_cons (pe_ix ix_tup (pv 0) pe_int (fun _ _ => rfl)) (pa_cons pe_int (pa_cons (pe_glob (v := .int 40) (by rfl) hrl ⟨_, rfl⟩) pa_nil))))))), ?_⟩
  refine ⟨_, rfl, x, d, 2, 2, rfl, t, _, rfl, ?_⟩
  cases c1 : tupD 2 2 d with
  | false =>
    have e : formD d = false := by
      unfold formD
      split
      · cases (show true = false from c1)
      · rfl
    rw [e] at q
    exact iteT q
  | true =>
    refine iteF ?_
    obtain ⟨da, db, rfl⟩ := tupD2 c1
    cases t with
    | @tup b xs _ h al =>
    match xs, al with
    | [xa, xb], .cons ta (.cons tb .nil) =>
    have q : Q (.bl (tupD 1 12 da && tupD 0 40 db)) H := q
    refine ⟨_, rfl, b, _, _, _, rfl, rfl, SqT.of h, (rfl : atI [xa, xb] 0 = some xa), xa, da, 1, 12, rfl, ta, _, rfl, ?_⟩
    cases c2 : tupD 1 12 da with
    | false =>
      rw [c2] at q
      exact iteF q
    | true =>
      rw [c2] at q
      exact iteT ⟨_, rfl, b, _, _, _, rfl, rfl, SqT.of h, (rfl : atI [xa, xb] 1 = some xb), xb, db, 0, 40, rfl, tb, q⟩
theorem scFDial : FnScope ["dials", "k", "dial"] ["dials"] (defScope sFDial) := ⟨rfl, rfl, rfl, by decide +kernel, rfl, by decide +kernel, by decide +kernel⟩
theorem ok_fDial {f g : Addr} {fd gd : FuncData} (F : Fun K "faulty_dial" "faulty_dial" sFDial f fd)
    (G : FnOk P w K mg base CX0 3 g gd ["thing"] (spIsDial Pt)) (bG : Binds K gd ["thing"] []) (kG : PySem.W.keepIn K (.ref g) = true) (mG : mg "is_dial" = some (.ref g)) (B : BltH mg) : FnOk P w K mg base CX0 4 f fd ["dials"] (spFDial Pt) := by
  refine F.ok scFDial (fun vs H Q E h => ?_) (fun cdv A outer s H vs Q E hr h => ?_)
  · obtain ⟨a, xs, ds, rfl, _⟩ := h
    rfl
  obtain ⟨a, xs, ds, rfl, ha, al, tg, hok, hlen, k⟩ := h
  have hl := al.length
  refine ⟨_, pss_cons (ps_for PassesOwn.never rfl (pi_enumT (by rfl) B.enumerate (pa_cons (pv 0) pa_nil)) (pg_tup rfl (pgs_cons (pg_name (i := 1) scFDial.nd rfl (.inl rfl)) (pgs_cons (pg_name (i := 2) scFDial.nd rfl (.inl rfl)) pgs_nil)))
      (pss_cons (ps_if (pt_not (pt_val (pe_call G hr rfl mG kG bG .nil pass0 (pa_cons (pv 2) pa_nil)))) (pss_one (ps_ret (pv 1))) pss_nil)
      (pss_one (ps_if (PW.pt (pw_and (pt_cmpR op_gt (pv 1) pe_int (nomark _)) (pw_and1 (pt_cmpR op_le_str (pe_ix ix_tup (pv 2) pe_int (fun _ _ => rfl)) (pe_ix ix_tup (pe_ix ix_tup (pv 0) (pe_op op_sub (pv 1) pe_int) (fun _ _ => rfl)) pe_int (fun _ _ => rfl)) (nomark _))))) (pss_one (ps_ret (pv 1))) pss_nil)))) <|
    pss_one (ps_ret pe_non), ?_⟩
  have an : ∀ H2, Gr Pt H H2 → H2 a = some (.tup xs) := fun H2 g => g.2 _ _ (let ⟨_, z, _⟩ := tg; ne_of ha z (by intro y; cases y)) ha
  refine ⟨_, rfl, a, xs, rfl, SqT.of ha, for_it walk_enumT (fun i σ H2 => ∃ (v1 v2 : Option V), σ = [some (.ref a), v1, v2] ∧ Gr Pt H H2 ∧ fDial 0 none ds = fDial i (prevAt ds i) (ds.drop i) ∧ ∀ j, j < i → ∀ d, ds[j]? = some d → dialD d = true)
    ⟨none, none, rfl, Gr.refl tg, rfl, fun j hj => absurd hj (by omega)⟩ (fun i σ H2 _ ⟨_, _, _, g, _⟩ => SqT.of (an H2 g)) ?_ ?_⟩
  · rintro i y σ H2 H3 hi ⟨v1, v2, rfl, gr, ef, hall⟩ ⟨T, x1, x2, rfl, nT, rfl, e1, e2⟩
    cases e1
    have e2 : xs[i]? = some x2 := e2
    obtain ⟨d, hd, ht⟩ := al.get e2
    have sT := sameNew nT (.tup [.int (i : Nat), x2])
    have g3 : Gr Pt H (upd H2 T (.tup [.int (i : Nat), x2])) := gr.trans (Gr.same gr.1 sT)
    refine ⟨T, _, rfl, SqT.of upd_same, rfl, _, _, rfl, _, _, rfl, rfl, ?_⟩
    refine ⟨_, rfl, x2, d, rfl, ht.gr tg g3, g3.1, okSs_get hok hd, fun H4 g4 => ⟨_, rfl, ?_⟩⟩
    have g5 := g3.trans g4
    cases c1 : dialD d with
    | false =>
      have q := k H4 g5
      rw [ef, fDial_bad hd c1] at q
      exact iteT ⟨_, rfl, q⟩
    | true =>
      refine iteF ?_
      refine ⟨_, rfl, _, _, rfl, rfl, _, rfl, ?_⟩
      refine ite2 (fun c2 => ?_) (fun c2 => ?_)
      · have c2' : (0 : Int) < (i : Int) := of_decide_eq_true c2
        obtain ⟨j, rfl⟩ : ∃ j, i = j + 1 := ⟨i - 1, by omega⟩
        have hj : j < xs.length := by omega
        obtain ⟨dj, hdj, htj⟩ := al.get (List.getElem?_eq_getElem hj)
        have cj := hall j (by omega) dj hdj
        obtain ⟨b1, ys1, ex1, hb1, hn1⟩ := dial_name c1 (ht.gr tg g5)
        obtain ⟨b2, ys2, ex2, hb2, hn2⟩ := dial_name cj (htj.gr tg g5)
        subst ex1
        have ek : (((j + 1 : Nat) : Int) - 1) = ((j : Nat) : Int) := by omega
        refine ⟨_, rfl, b1, _, _, _, rfl, rfl, SqT.of hb1, atV (i := 0) hn1, _, rfl, _, rfl, _, _, rfl, rfl, a, xs, _, _, rfl, rfl, SqT.of (an H4 g5), (by rw [ek]; exact atV (List.getElem?_eq_getElem hj)), b2, ys2, _, _, ex2, rfl, SqT.of hb2, atV (i := 0) hn2, _, _, rfl, rfl, _, rfl, ?_⟩
        have pv : prevAt ds (j + 1) = some (nameOf dj) := by
          show (ds[j]?).map nameOf = _
          rw [hdj]
          rfl
        cases c3 : leS (nameOf d) (nameOf dj) with
        | true =>
          rw [show (!decide ((nameOf dj).cps.toList < (nameOf d).cps.toList)) = true from c3]
          have q := k H4 g5
          rw [ef, fDial_low hd c1 pv c3] at q
          exact iteT ⟨_, rfl, q⟩
        | false =>
          rw [show (!decide ((nameOf dj).cps.toList < (nameOf d).cps.toList)) = false from c3]
          refine iteF ⟨_, _, rfl, g5, ?_, fun m hm dm hdm => ?_⟩
          · rw [ef, fDial_step hd c1 fun p hp => by rw [pv] at hp; cases hp; exact c3]
          · by_cases em : m < j + 1
            · exact hall m em dm hdm
            · have em : m = j + 1 := by omega
              subst em
              rw [hd] at hdm
              cases hdm
              exact c1
      · have i0 : i = 0 := by
          have z := of_decide_eq_false (Bool.eq_false_iff.mpr c2)
          omega
        subst i0
        refine iteF ⟨_, _, rfl, g5, ?_, fun m hm dm hdm => ?_⟩
        · rw [ef, fDial_step hd c1 fun p hp => by cases hp]
        · have em : m = 0 := by omega
          subst em
          rw [hd] at hdm
          cases hdm
          exact c1
  · rintro σ H2 ⟨v1, v2, rfl, gr, ef, _⟩
    have q := k H2 gr
    rw [ef, hl, List.drop_length] at q
    exact q
end
end Pk
namespace Pk
open PySem L2
theorem take_more {α : Type} {ds : List α} {i : Nat} {d : α} (h : ds[i]? = some d) : ds.take (i + 1) = ds.take i ++ [d] := by
  rw [List.take_add_one, h]
  rfl
mutual
/-- data without dicts, as the layer reads it -/
theorem Tr.dp {K : PySem.W.Frag} {H : Hp} : ∀ {v : V} {d : PyData}, Tr H v d → d.hasDict = false → Dp K H v d
  | _, _, .non, _ => .non
  | _, _, .bl b, _ => .bl b
  | _, _, .int i, _ => .int i
  | _, _, .str x, _ => .str x
  | _, _, .lst h a, e => .lst (SqL.of h) (TrAll.dp a (by simpa only [PyData.hasDict] using e))
  | _, _, .tup h a, e => .tup (SqT.of h) (TrAll.dp a (by simpa only [PyData.hasDict] using e))
  | _, _, .dct _ _ _ _, e => by simp [PyData.hasDict] at e
theorem TrAll.dp {K : PySem.W.Frag} {H : Hp} : ∀ {vs : List V} {ds : List PyData}, TrAll H vs ds → PyData.hasDictAll ds = false → DpAll K H vs ds
  | _, _, .nil, _ => .nil
  | _, _, .cons h t, e => by
    simp only [PyData.hasDictAll, Bool.or_eq_false_iff] at e
    exact .cons (h.dp e.1) (TrAll.dp t e.2)
end
theorem whole_lay {lo hi : Int} {d : PyData} (h : wholeD lo hi d = true) : d.canLay0 = true ∧ d.depth = 0 := by
  cases d with
  | int i => exact ⟨by simp only [PyData.canLay0], by simp only [PyData.depth]⟩
  | _ => cases h
theorem strIs_is {z : Str} {d : PyData} (h : strIs z d = true) : d = .str z := by
  cases d with
  | str y =>
    have e : z = y := by simpa [strIs] using h
    rw [e]
  | _ => cases h
theorem inS_lay {zs : List Str} {d : PyData} (hn : ∀ z ∈ zs, PyData.strOk z = true) (h : inS zs d = true) : d.canLay0 = true ∧ d.depth = 0 := by
  unfold inS at h
  obtain ⟨z, hz, e⟩ := List.any_eq_true.mp h
  rw [strIs_is e]
  exact ⟨by simpa only [PyData.canLay0] using hn z hz, by simp only [PyData.depth]⟩
theorem sorts_ok : ∀ z ∈ sorts2, PyData.strOk z = true := by decide +kernel
theorem pairs_ok : ∀ z ∈ pairs3, PyData.strOk z = true := by decide +kernel
theorem say_lay {ns : List Str} {d : PyData} (hn : ∀ z ∈ ns, PyData.strOk z = true) (h : sayingD ns d = true) : d.canLay0 = true ∧ d.depth ≤ 1 := by
  unfold sayingD at h
  split at h
  · simp only [Bool.and_eq_true] at h
    obtain ⟨a1, a2⟩ := inS_lay hn h.1
    obtain ⟨b1, b2⟩ := inS_lay sorts_ok h.2.1
    obtain ⟨c1, c2⟩ := whole_lay h.2.2
    exact ⟨by simp [PyData.canLay0, PyData.canLayAll0, a1, b1, c1], by simp [PyData.depth, PyData.depthAll, a2, b2, c2]⟩
  · cases h
theorem rule_lay {ns : List Str} {d : PyData} (hn : ∀ z ∈ ns, PyData.strOk z = true) (h : ruleD ns d = true) : d.canLay0 = true ∧ d.depth ≤ 2 := by
  unfold ruleD at h
  split at h
  · simp only [Bool.and_eq_true] at h
    have e := strIs_is h.1
    subst e
    obtain ⟨b1, b2⟩ := say_lay hn h.2.1
    obtain ⟨c1, c2⟩ := say_lay hn h.2.2
    have o : PyData.strOk ("one" : Str) = true := by decide +kernel
    refine ⟨by simp [PyData.canLay0, PyData.canLayAll0, b1, c1, o], ?_⟩
    simp only [PyData.depth, PyData.depthAll]
    omega
  · simp only [Bool.and_eq_true] at h
    obtain ⟨a1, a2⟩ := inS_lay pairs_ok h.1
    obtain ⟨b1, b2⟩ := inS_lay hn h.2.1
    obtain ⟨c1, c2⟩ := inS_lay hn h.2.2.1
    obtain ⟨e1, e2⟩ := whole_lay h.2.2.2.2
    refine ⟨by simp [PyData.canLay0, PyData.canLayAll0, a1, b1, c1, e1], ?_⟩
    simp only [PyData.depth, PyData.depthAll]
    omega
  · cases h
theorem shaped_of {d : PyData} (h : d.canLay0 = true) (hd : d.depth ≤ 64) : SeqAt.shaped d = true := by
  unfold SeqAt.shaped
  rw [Bool.and_eq_true]
  exact ⟨h, decide_eq_true hd⟩
theorem all_lay : ∀ {ds : List PyData}, (∀ d ∈ ds, d.canLay0 = true ∧ d.depth ≤ 2) → PyData.canLayAll0 ds = true ∧ PyData.depthAll ds ≤ 2
  | [], _ => ⟨by simp only [PyData.canLayAll0], by simp [PyData.depthAll]⟩
  | d :: ds, h => by
    obtain ⟨a1, a2⟩ := h d List.mem_cons_self
    obtain ⟨b1, b2⟩ := all_lay fun e he => h e (List.mem_cons_of_mem _ he)
    refine ⟨by simp [PyData.canLayAll0, a1, b1], ?_⟩
    simp only [PyData.depthAll]
    omega
theorem noDict_of {d : PyData} (h : d.canLay0 = true) : d.hasDict = false := PyData.hasDict_of_canLay d h
theorem TrAll.take {H : Hp} : ∀ {xs : List V} {ds : List PyData} (n : Nat), TrAll H xs ds → TrAll H (xs.take n) (ds.take n)
  | _, _, 0, _ => .nil
  | _, _, _ + 1, .nil => .nil
  | _, _, n + 1, .cons h t => .cons h (TrAll.take n t)
theorem fRule_cons (ns : List Str) (k : Nat) (past : List PyData) (r : PyData) (rs : List PyData) : fRule ns k past (r :: rs) = if ruleD ns r = true then (if (past.any fun z => PyData.eqv z r) = true then some k else fRule ns (k + 1) (past ++ [r]) rs) else some k := rfl
theorem cut_take {xs : List V} {i : Nat} (h : i < xs.length) : cutV xs none (some (i : Int)) = xs.take i := by
  unfold cutV
  rw [HT.sIx_none, HT.sIx_nat]
  rw [Nat.min_eq_left (Nat.le_of_lt h), List.drop_zero, Nat.sub_zero]
def spFRule : Sp := fun vs H Q _ => ∃ (a b : Addr) (ns : List Str) (xs : List V) (rs : List PyData), vs = [.ref b, .ref a] ∧ H b = some (.lst (ns.map V.str)) ∧ (∀ z ∈ ns, PyData.strOk z = true) ∧ H a = some (.tup xs) ∧ TrAll H xs rs ∧ xs.length ≤ 1000 ∧ ∀ H', Same H H' → Q (optV (fRule ns 0 [] rs)) H'
section
variable {P : Program} {w : World} {K : PySem.W.Frag} {mg : Str → Option Value} {base : Heap} {W S R Pt : Addr}
theorem scFRule : FnScope ["names", "rules", "k", "rule"] ["names", "rules"] (defScope sFRule) := ⟨rfl, rfl, rfl, by decide +kernel, rfl, by decide +kernel, by decide +kernel⟩
theorem ok_fRule {f g : Addr} {fd gd : FuncData} (F : Fun K "faulty_rule" "faulty_rule" sFRule f fd)
    (G : FnOk P w K mg base CX0 3 g gd ["names", "thing"] spIsRule) (bG : Binds K gd ["names", "thing"] []) (kG : PySem.W.keepIn K (.ref g) = true) (mG : mg "is_rule" = some (.ref g)) (B : BltH mg) : FnOk P w K mg base CX0 4 f fd ["names", "rules"] spFRule := by
  refine F.ok scFRule (fun vs H Q E h => ?_) (fun cdv A outer s H vs Q E hr h => ?_)
  · obtain ⟨a, b, ns, xs, rs, rfl, _⟩ := h
    rfl
  obtain ⟨a, b, ns, xs, rs, rfl, hb, hn, ha, al, hlen, k⟩ := h
  have hl := al.length
  have hu65 : (A.deeper (PyProof.Rows.envOfC "faulty_rule" (defScope sFRule) s.heap.objs.size f cdv)).units + 65 < cLine := by
    have := hr.un
    omega
  refine ⟨_, pss_cons (ps_for PassesOwn.never rfl (pi_enumT (by rfl) B.enumerate (pa_cons (pv 1) pa_nil)) (pg_tup rfl (pgs_cons (pg_name (i := 2) scFRule.nd rfl (.inl rfl)) (pgs_cons (pg_name (i := 3) scFRule.nd rfl (.inl rfl)) pgs_nil)))
      (pss_one (ps_if (PW.pt (pw_or (pt_not (pt_val (pe_call G hr rfl mG kG bG .nil pass0 (pa_cons (pv 0) (pa_cons (pv 3) pa_nil))))) (pw_or1 (pt_cmpR (op_inDT hu65) (pv 3) (pe_slice sl_tup (pv 1) po_none (po_some (pv 2))) (by rfl))))) (pss_one (ps_ret (pv 2))) pss_nil))) <|
    pss_one (ps_ret pe_non), ?_⟩
  refine ⟨_, rfl, a, xs, rfl, SqT.of ha, for_it walk_enumT (fun i σ H2 => ∃ (v1 v2 : Option V), σ = [some (.ref b), some (.ref a), v1, v2] ∧ Same H H2 ∧ fRule ns 0 [] rs = fRule ns i (rs.take i) (rs.drop i) ∧ ∀ d ∈ rs.take i, ruleD ns d = true)
    ⟨none, none, rfl, Same.refl _, rfl, fun d hd => absurd hd (by simp)⟩ (fun i σ H2 _ ⟨_, _, _, g, _⟩ => SqT.of (g _ _ ha)) ?_ ?_⟩
  · rintro i y σ H2 H3 hi ⟨v1, v2, rfl, s2, ef, hall⟩ ⟨T, x1, x2, rfl, nT, rfl, e1, e2⟩
    cases e1
    have e2 : xs[i]? = some x2 := e2
    obtain ⟨d, hd, ht⟩ := al.get e2
    obtain ⟨hi2, ed⟩ := List.getElem?_eq_some_iff.mp hd
    have sT := sameNew nT (.tup [.int (i : Nat), x2])
    have s3 := s2.trans sT
    rw [List.drop_eq_getElem_cons hi2, ed, fRule_cons] at ef
    refine ⟨T, _, rfl, SqT.of upd_same, rfl, _, _, rfl, _, _, rfl, rfl, ?_⟩
    refine ⟨_, rfl, _, rfl, b, ns, x2, d, rfl, s3 _ _ hb, ht.same s3, _, rfl, ?_⟩
    cases c1 : ruleD ns d with
    | false =>
      rw [if_neg (by rw [c1]; exact Bool.false_ne_true)] at ef
      have q := k _ s3
      rw [ef] at q
      exact iteT ⟨_, rfl, q⟩
    | true =>
      rw [if_pos c1] at ef
      refine iteF ?_
      refine ⟨_, rfl, _, rfl, _, rfl, _, rfl, ?_⟩
      have hlt : i < xs.length := hi
      refine ⟨a, xs, rfl, SqT.of (s3 _ _ ha), fun ⟨_, z⟩ => ?_, fun p np => ?_⟩
      · rw [HT.sIx_nat] at z
        omega
      rw [cut_take hlt]
      have s5 := sameNew np (.tup (xs.take i))
      have s4 := s3.trans s5
      obtain ⟨y1, y2⟩ := rule_lay hn c1
      obtain ⟨z1, z2⟩ := all_lay fun e he => rule_lay hn (hall e he)
      have w1 : (PyData.tuple (rs.take i)).canLay0 = true := by simpa only [PyData.canLay0] using z1
      refine ⟨d, rs.take i, (ht.same s4).dp (noDict_of y1), Tr.dp (.tup upd_same ((al.same s4).take i)) (noDict_of w1), shaped_of y1 (by omega), shaped_of w1 (by simp only [PyData.depth]; omega), _, rfl, ?_⟩
      cases c2 : (rs.take i).any fun z => PyData.eqv z d with
      | true =>
        rw [if_pos c2] at ef
        have q := k _ s4
        rw [ef] at q
        exact iteT ⟨_, rfl, q⟩
      | false =>
        rw [if_neg (by rw [c2]; exact Bool.false_ne_true), ← take_more hd] at ef
        refine iteF ⟨_, _, rfl, s4, ef, fun e he => ?_⟩
        rw [take_more hd] at he
        rcases List.mem_append.mp he with he | he
        · exact hall e he
        · rw [List.mem_singleton.mp he]
          exact c1
  · rintro σ H2 ⟨v1, v2, rfl, s2, ef, _⟩
    have q := k H2 s2
    rw [ef, hl, List.drop_length] at q
    exact q
end
end Pk
namespace Pk
open PySem L2
def isN : PyData → Bool
  | .none => true
  | _ => false
theorem Tr.isN {H : Hp} {v : V} {d : PyData} (t : Tr H v d) : decide (v = .non) = Pk.isN d := by
  cases t <;> simp [Pk.isN]
def spFault (Pt : Addr) : Sp := fun vs H Q _ => ∃ (x : V) (d : PyData), vs = [x] ∧ Tr H x d ∧ GxR.TabG H Pt ∧ okS d = true ∧ ∀ v H', Gr Pt H H' → Tr H' v (faultD d) → Q v H'
def spHouse (Pt : Addr) : Sp := fun vs H Q _ => ∃ (x : V) (d : PyData), vs = [x] ∧ Tr H x d ∧ GxR.TabG H Pt ∧ okS d = true ∧ ∀ H', Gr Pt H H' → Q (.bl (isN (faultD d))) H'
theorem fDial_none : ∀ {ds : List PyData} {k : Nat} {p : Option Str}, fDial k p ds = none → ∀ d ∈ ds, dialD d = true
  | [], _, _, _, d, h => absurd h (by simp)
  | d :: ds, k, p, e, d', h => by
    rw [fDial_cons] at e
    by_cases c : dialD d = true
    · rw [if_pos c] at e
      have rest : ∀ {o : Option Str}, fDial (k + 1) o ds = none → dialD d' = true := fun {o} e2 => by
        rcases List.mem_cons.mp h with h | h
        · rw [h]; exact c
        · exact fDial_none e2 d' h
      cases p with
      | none => exact rest e
      | some p =>
        simp only at e
        by_cases c2 : leS (nameOf d) p = true
        · rw [if_pos c2] at e
          cases e
        · rw [if_neg c2] at e
          exact rest e
    · rw [if_neg c] at e
      cases e
theorem name_ok {d : PyData} (h : dialD d = true) : PyData.strOk (nameOf d) = true := by
  unfold dialD at h
  split at h
  · rename_i n lo hi way up down
    simp only [Bool.and_eq_true] at h
    cases n with
    | str z =>
      have h1 := h.1
      rw [nameD_str] at h1
      simp only [Bool.and_eq_true] at h1
      show PyData.strOk z = true
      unfold PyData.strOk
      have h2 := h1.2.2
      rw [Array.all_toList] at h2
      rw [Array.all_eq_true] at h2 ⊢
      intro i hi
      have q := h2 i hi
      simp only [smallC, Bool.and_eq_true, decide_eq_true_eq] at q
      simp only [decide_eq_true_eq]
      omega
    | _ => cases h.1
  · cases h
theorem form_is {d : PyData} (h : formD d = true) : ∃ ds rs, d = .tuple [.tuple ds, .tuple rs] ∧ ds.length ≤ 12 ∧ rs.length ≤ 40 := by
  unfold formD at h
  split at h
  · rename_i a b
    simp only [Bool.and_eq_true] at h
    cases a with
    | tuple ds =>
      cases b with
      | tuple rs =>
        have h1 := h.1
        have h2 := h.2
        simp only [tupD, Bool.and_eq_true, decide_eq_true_eq] at h1 h2
        exact ⟨ds, rs, rfl, by omega, by omega⟩
      | _ => cases h.2
    | _ => cases h.1
  · cases h
section
variable {P : Program} {w : World} {K : PySem.W.Frag} {mg : Str → Option Value} {base : Heap} {W S R Pt : Addr}
theorem scFault : FnScope ["thing", "dials", "rules", "k", "dial"] ["thing"] (defScope sFault) := ⟨rfl, rfl, rfl, by decide +kernel, rfl, by decide +kernel, by decide +kernel⟩
theorem ok_fault {f g1 g2 g3 : Addr} {fd d1 d2 d3 : FuncData} (F : Fun K "fault_of" "fault_of" sFault f fd)
    (G1 : FnOk P w K mg base CX0 2 g1 d1 ["thing"] spForm) (b1 : Binds K d1 ["thing"] []) (k1 : PySem.W.keepIn K (.ref g1) = true) (m1 : mg "has_house_form" = some (.ref g1))
    (G2 : FnOk P w K mg base CX0 4 g2 d2 ["dials"] (spFDial Pt)) (b2 : Binds K d2 ["dials"] []) (k2 : PySem.W.keepIn K (.ref g2) = true) (m2 : mg "faulty_dial" = some (.ref g2))
    (G3 : FnOk P w K mg base CX0 4 g3 d3 ["names", "rules"] spFRule) (b3 : Binds K d3 ["names", "rules"] []) (k3 : PySem.W.keepIn K (.ref g3) = true) (m3 : mg "faulty_rule" = some (.ref g3)) : FnOk P w K mg base CX0 5 f fd ["thing"] (spFault Pt) := by
  refine F.ok scFault (fun vs H Q E h => ?_) (fun cdv A outer s H vs Q E hr h => ?_)
  · obtain ⟨x, d, rfl, _⟩ := h
    rfl
  obtain ⟨x, d, rfl, t, tg, hz, k⟩ := h
  have hr1 : Room 2 _ := hr.mono (by decide)
  refine ⟨_, pss_cons (ps_if (pt_not (pt_val (pe_call G1 hr1 rfl m1 k1 b1 .nil pass0 (pa_cons (pv 0) pa_nil)))) (pss_one (ps_ret (pe_tup (pa_cons pe_str pa_nil)))) pss_nil) <|
    pss_cons (ps_asg (pv 0) (pg_tup (by rfl) (pgs_cons (pg_name (i := 1) scFault.nd rfl (.inl rfl)) <| pgs_cons (pg_name (i := 2) scFault.nd rfl (.inl rfl)) pgs_nil))) <|
    pss_cons (ps_set (i := 3) scFault.nd rfl (.inl rfl) (pe_call G2 hr rfl m2 k2 b2 .nil pass0 (pa_cons (pv 1) pa_nil))) <|
    pss_cons (ps_if (pt_cmpR op_notN (pv 3) pe_non (nomark _)) (pss_one (ps_ret (pe_tup (pa_cons pe_str (pa_cons (pv 3) pa_nil))))) pss_nil) <|
    pss_cons (ps_set (i := 3) scFault.nd rfl (.inl rfl) (pe_call G3 hr rfl m3 k3 b3 .nil pass0 (pa_cons (pe_lc (own := [("dial", 4)]) (g := gName 4) (by rfl) scFault.nd (pi_tup (pv 1)) (blkOk_by (N := ["thing", "dials", "rules", "k", "dial"]) (sc := defScope sFault) (by decide +kernel)) (fun _ _ _ _ _ => pg_name (i := 4) scFault.nd rfl (Or.inl rfl)) (fun _ _ _ _ _ => pts_nil) (fun _ _ _ _ _ => pe_ix (r := rIxT K) ix_tup (pv 4) pe_int (fun _ _ => rfl))) (pa_cons (pv 2) pa_nil)))) <|
    pss_cons (ps_if (pt_cmpR op_notN (pv 3) pe_non (nomark _)) (pss_one (ps_ret (pe_tup (pa_cons pe_str (pa_cons (pv 3) pa_nil))))) pss_nil) <|
    pss_one (ps_ret pe_non), ?_⟩
  refine ⟨_, rfl, x, d, rfl, t, _, rfl, ?_⟩
  cases c1 : formD d with
  | false =>
    refine iteT ⟨by show 1 ≤ sizeLine; decide, fun p np => ?_⟩
    refine k _ _ (Gr.same tg (sameNew np _)) ?_
    unfold faultD
    rw [if_neg (by rw [c1]; exact Bool.false_ne_true)]
    exact .tup upd_same (.cons (.str _) .nil)
  | true =>
    refine iteF ?_
    obtain ⟨ds, rs, rfl, l1, l2⟩ := form_is c1
    cases t with
    | @tup b xs _ h al =>
    match xs, al with
    | [xa, xb], .cons ta (.cons tb .nil) =>
    cases ta with
    | @tup a1 xs1 _ h1 al1 =>
    cases tb with
    | @tup a2 xs2 _ h2 al2 =>
    have z1 := al1.length
    have z2 := al2.length
    simp only [okS, okSs, Bool.and_eq_true] at hz
    have n1 : a1 ≠ Pt := let ⟨_, z, _⟩ := tg; ne_of h1 z (by intro y; cases y)
    have n2 : a2 ≠ Pt := let ⟨_, z, _⟩ := tg; ne_of h2 z (by intro y; cases y)
    refine ⟨_, rfl, b, _, rfl, SqT.of h, rfl, _, _, rfl, _, _, rfl, rfl, ?_⟩
    refine ⟨_, rfl, a1, xs1, ds, rfl, h1, al1, tg, hz.1, by omega, fun H1 g1 => ?_⟩
    have ef : faultD (.tuple [.tuple ds, .tuple rs]) = (match fDial 0 none ds with
      | some k => .tuple [.str "dial", .int k]
      | none => match fRule (ds.map nameOf) 0 [] rs with
        | some k => .tuple [.str "rule", .int k]
        | none => .none) := by
      unfold faultD
      rw [if_pos c1]
      rfl
    rw [ef] at k
    cases c2 : fDial 0 none ds with
    | some j =>
      rw [c2] at k
      refine ⟨_, rfl, rfl, _, rfl, iteT ?_⟩
      refine ⟨_, rfl, by show 2 ≤ sizeLine; decide, fun p np => ?_⟩
      exact k _ _ (g1.trans (Gr.same g1.1 (sameNew np _))) (.tup upd_same (.cons (.str _) (.cons (.int _) .nil)))
    | none =>
      rw [c2] at k
      have hall := fDial_none c2
      refine ⟨_, rfl, rfl, _, rfl, iteF ?_⟩
      have h1' := g1.2 _ _ n1 h1
      refine ⟨_, rfl, a1, rfl, ⟨_, SqT.of h1'⟩, fun D hD => lc_tup (K := K) (a := a1) (xs := xs1) (fun i H2 => H2 D = some (.lst (((ds.take i).map nameOf).map V.str)) ∧ Same H1 H2) ⟨by rw [List.take_zero]; exact upd_same, sameNew hD _⟩ (fun i H2 _ ⟨_, s2⟩ => SqT.of (s2 _ _ h1')) ?_ ?_⟩
      · rintro i y H2 hy ⟨e2, s2⟩
        obtain ⟨d, hd, hT⟩ := al1.get hy
        have cd := hall d (List.mem_of_getElem? hd)
        obtain ⟨b1, ys1, ex1, hb1, hn1⟩ := dial_name cd ((hT.gr tg g1).same s2)
        subst ex1
        have hi : i < xs1.length := (List.getElem?_eq_some_iff.mp hy).1
        refine ⟨rfl, _, rfl, b1, _, _, _, rfl, rfl, SqT.of hb1, atV (i := 0) hn1, _, e2, small1000 (by simp only [List.length_map, List.length_take]; omega), ?_, ?_⟩
        · rw [upd_same, take_more hd]
          simp
        · exact fun b o e => by rw [upd_ne (ne_of_none e hD)]; exact s2 _ _ e
      · rintro H2 ⟨e2, s2⟩
        rw [z1, List.take_length] at e2
        have gA : Gr Pt H H2 := g1.trans (Gr.same g1.1 s2)
        have sok : ∀ z ∈ ds.map nameOf, PyData.strOk z = true := fun z hz => by
          obtain ⟨d, hd, rfl⟩ := List.mem_map.mp hz
          exact name_ok (hall d hd)
        refine ⟨_, rfl, a2, D, _, xs2, rs, rfl, e2, sok, gA.2 _ _ n2 h2, al2.gr tg gA, by omega, fun H3 s3 => ?_⟩
        have gB := gA.trans (Gr.same gA.1 s3)
        simp only at k
        cases c3 : fRule (ds.map nameOf) 0 [] rs with
        | some j =>
          rw [c3] at k
          refine ⟨_, rfl, rfl, _, rfl, iteT ?_⟩
          refine ⟨_, rfl, by show 2 ≤ sizeLine; decide, fun p np => ?_⟩
          exact k _ _ (gB.trans (Gr.same gB.1 (sameNew np _))) (.tup upd_same (.cons (.str _) (.cons (.int _) .nil)))
        | none =>
          rw [c3] at k
          refine ⟨_, rfl, rfl, _, rfl, iteF ?_⟩
          exact k _ _ gB .non
end
end Pk
section
set_option maxHeartbeats 1000000
/-! Rules of my own: a list beside the empty one; a truth as a number; a tuple turned about; not in a list of data. -/
namespace Pk
open PySem L2
section
variable {X : Cx}
theorem op_eqNil (hu : X.A.units < cLine) : OpR X (compareOp .Eq) (fun x y H Q => ∃ (a b : Addr) (xs : List V), x = .ref a ∧ y = .ref b ∧ SqL X.K H a xs ∧ SqL X.K H b [] ∧ Q (.bl xs.isEmpty) H) := by
  intro pz s σ H x y v u Q I rx ry h
  obtain ⟨a, b, xs, rfl, rfl, ha, hb, q⟩ := h
  cases rx
  cases ry
  obtain ⟨its, r, hl, _⟩ := I.list ha
  obtain ⟨its2, r2, hl2, _⟩ := I.list hb
  cases r2
  cases r with
  | nil => exact SeqAt.eq_listAt (e := fun _ => true) hl.isList hl2.isList rfl hu (fun j h1 => absurd h1 (by simp)) ⟨.bl true, H, I, rfl, q⟩
  | cons _ _ => exact SeqAt.eq_list_lengthsAt hl.isList hl2.isList (by simp) hu ⟨.bl false, H, I, rfl, q⟩
theorem op_neNil (hu : X.A.units < cLine) : OpR X (compareOp .NotEq) (fun x y H Q => ∃ (a b : Addr) (xs : List V), x = .ref a ∧ y = .ref b ∧ SqL X.K H a xs ∧ SqL X.K H b [] ∧ Q (.bl (!xs.isEmpty)) H) := by
  intro pz s σ H x y v u Q I rx ry h
  obtain ⟨a, b, xs, rfl, rfl, ha, hb, q⟩ := h
  cases rx
  cases ry
  obtain ⟨its, r, hl, _⟩ := I.list ha
  obtain ⟨its2, r2, hl2, _⟩ := I.list hb
  cases r2
  cases r with
  | nil => exact SeqAt.RcNeAt.lists (e := fun _ => true) hl.isList hl2.isList rfl hu (fun j h1 => absurd h1 (by simp)) X.prog X.w X.xe _ ⟨.bl false, H, I, rfl, q⟩
  | cons _ _ => exact SeqAt.RcNeAt.lists_lengths hl.isList hl2.isList (by simp) hu X.prog X.w X.xe _ ⟨.bl true, H, I, rfl, q⟩
/-- a number, or a truth as one -/
def numV : V → Option Int
  | .int i => some i
  | .bl b => some (if b = true then 1 else 0)
  | _ => none
theorem op_addN : OpR X (binaryOp .Add) (fun x y H Q => ∃ i j, numV x = some i ∧ y = .int j ∧ Q (.int (i + j)) H) := by
  intro pz s σ H x y v u Q I rx ry h
  obtain ⟨i, j, hx, rfl, q⟩ := h
  cases x with
  | int n =>
    cases hx
    exact op_add pz s σ H _ _ v u Q I rx ry ⟨_, _, rfl, rfl, q⟩
  | bl b =>
    cases hx
    cases rx
    obtain ⟨t, rfl⟩ := ry
    exact PySem.IntBool.add_bool_int ⟨.int _, H, I.tok _, ⟨_, rfl⟩, q⟩
  | _ => cases hx
theorem op_subN : OpR X (binaryOp .Sub) (fun x y H Q => ∃ i j, numV x = some i ∧ y = .int j ∧ Q (.int (i - j)) H) := by
  intro pz s σ H x y v u Q I rx ry h
  obtain ⟨i, j, hx, rfl, q⟩ := h
  cases x with
  | int n =>
    cases hx
    exact op_sub pz s σ H _ _ v u Q I rx ry ⟨_, _, rfl, rfl, q⟩
  | bl b =>
    cases hx
    cases rx
    obtain ⟨t, rfl⟩ := ry
    exact PySem.IntBool.sub_bool_int ⟨.int _, H, I.tok _, ⟨_, rfl⟩, q⟩
  | _ => cases hx
theorem op_subM : OpR X (binaryOp .Sub) (fun x y H Q => ∃ i j, x = .int i ∧ numV y = some j ∧ Q (.int (i - j)) H) := by
  intro pz s σ H x y v u Q I rx ry h
  obtain ⟨i, j, rfl, hy, q⟩ := h
  cases y with
  | int n =>
    cases hy
    exact op_sub pz s σ H _ _ v u Q I rx ry ⟨_, _, rfl, rfl, q⟩
  | bl b =>
    cases hy
    cases ry
    obtain ⟨t, rfl⟩ := rx
    exact PySem.IntBool.sub_int_bool ⟨.int _, H, I.tok _, ⟨_, rfl⟩, q⟩
  | _ => cases hy
/-- the text of a number, or of a truth -/
def textV : V → Str
  | .int i => toString i
  | .bl b => if b then "True" else "False"
  | _ => ""
theorem call_strN : CallR X (.type "str") (fun xs H Q => ∃ x i, xs = [x] ∧ numV x = some i ∧ i.natAbs.log2 < 1920 ∧ Q (.str (textV x)) H) := by
  intro pz s σ H xs us Q I r h
  obtain ⟨x, i, rfl, hx, hz, q⟩ := h
  cases x with
  | int n =>
    cases hx
    exact call_str_int pz s σ H _ us Q I r ⟨_, rfl, hz, q⟩
  | bl b =>
    obtain ⟨u, rfl, r1⟩ := vals1 r
    cases r1
    exact PySem.P.str_of_bool ⟨.str _, H, I.tok _, ⟨_, rfl⟩, q⟩
  | _ => cases hx
end
end Pk
namespace Pk
open PySem PySem.Spec PyProof.Rows L2 HT
section
variable {prog : Program} {w : World} {A : Around} {E : Value → Shared → Prop} {s : Shared}
theorem applied_rev {sl : Addr} {vs : Value} {n : Nat} {Q : Int × Int × Nat → Shared → Prop} (hs : s.heap.IsSliceOf sl .none .none vs) (ps : IsPart vs (some (-1)))
    (h : Q ((n : Int) - 1, -1, n) s) : wpAny (model prog w) A (Builtin.Slice.sliceApplied (.ref sl) (pure (n : Int))) Q E s := by
  obtain ⟨os, hos, hcs, hds⟩ := id hs
  unfold Builtin.Slice.sliceApplied Builtin.Slice.sliceFields
  refine wpAny_bind (wpAny_bind (wpAny_field hos hds (x := .none) rfl (wpAny_bind (wpAny_field hos hds (x := .none) rfl (wpAny_bind (wpAny_field hos hds (x := vs) rfl (wpAny_pure ?_)))))))
  refine wpAny_bind (slicePart_ ps ?_)
  show wpAny _ _ (if ((-1 : Int) == 0) = true then _ else _) _ _ s
  rw [if_neg (by decide)]
  refine wpAny_bind (slicePart_none (wpAny_bind (slicePart_none (wpAny_bind (wpAny_pure ?_)))))
  show wpAny _ _ (pure ((n : Int) - 1, (-1 : Int), Builtin.Slice.slicePlaces ((n : Int) - 1) (-1) (-1))) _ _ s
  have e : Builtin.Slice.slicePlaces ((n : Int) - 1) (-1) (-1) = n := by
    unfold Builtin.Slice.slicePlaces
    rw [if_neg (by decide)]
    by_cases h : (n : Int) - 1 > -1
    · rw [if_pos h, show (-(-1) : Int) = 1 by decide, Int.ediv_one]
      omega
    · rw [if_neg h]
      omega
  rw [e]
  exact wpAny_pure h
theorem filterMap_same {α β : Type} {f g : α → Option β} : ∀ {l : List α}, (∀ x ∈ l, f x = g x) → l.filterMap f = l.filterMap g
  | [], _ => rfl
  | x :: l, h => by
    rw [List.filterMap_cons, List.filterMap_cons, h x List.mem_cons_self, filterMap_same fun y hy => h y (List.mem_cons_of_mem _ hy)]
theorem pick_rev (xs : Array Value) : ((List.range xs.size).filterMap fun (m : Nat) => xs[(((xs.size : Int) - 1) + (m : Int) * (-1)).toNat]?).toArray = xs.toList.reverse.toArray := by
  have e := PySem.W.krv_pick xs
  unfold slicePick at e
  rw [PySem.W.krv_bounds] at e
  rw [← e]
  show _ = ((sliceRange ((xs.size : Int) - 1) (-1) (-1)).filterMap (xs[·]?)).toArray
  rw [PySem.W.krv_sliceRange, List.filterMap_map]
  congr 1
  apply filterMap_same
  intro m hm
  have := List.mem_range.mp hm
  show xs[_]? = xs[xs.size - 1 - m]?
  congr 1
  omega
theorem getItem_tup_rev {t sl : Addr} {items : Array Value} {vs : Value} {Q : Value → Shared → Prop} (ht : IsTup s.heap t items) (hs : s.heap.IsSliceOf sl .none .none vs) (ps : IsPart vs (some (-1)))
    (h : Q (.ref s.heap.objs.size) { s with heap := s.heap.push { cls := .type "tuple", data := .seq items.toList.reverse.toArray } })
    (hsz : items.size ≤ sizeLine) : wpAny (model prog w) A (getItem (.ref t) (.ref sl)) Q E s := by
  have htake : sizeOk (.seq items.toList.reverse.toArray) := by
    show items.toList.reverse.toArray.size ≤ sizeLine
    rw [List.size_toArray, List.length_reverse, Array.length_toList]
    omega
  obtain ⟨os, hos, hcs, hds⟩ := id hs
  have hTs : s.TypeIs (.ref sl) "slice" := ⟨os, hos, hcs⟩
  unfold getItem
  try with_reducible refine wpAny_holding ?_
  first | refine wpAny_bind (wpAny_pure ?_) | skip
  refine wpAny_bind (wpAny_sequenceKey ht.typeIs (by decide) ?_)
  refine wpAny_bind (wpAny_callSpecial?_slot (name := Str.ofString "__getitem__") ht.typeIs PyProof.Rows.slot_tuple_getitem
    (wpAny_call_entry PyProof.Rows.slot_tuple_getitem ht.typeIs entry_tuple_getitem ?_ (args_tuple_getitem _ _)))
  show wpAny _ _ (Builtin.Tuple.tupleItemsOf (.ref t) >>= _) _ _ s
  refine wpAny_bind (tupleItemsOf_ ht ?_)
  refine wpAny_bind (wpAny_typeOf hTs ?_)
  rw [if_pos (by decide)]
  refine wpAny_bind (applied_rev hs ps ?_)
  have hno : ¬ ((((items.size : Int) - 1) == 0 && (-1 : Int) == 1 && items.size == items.size) = true) := by simp
  show wpAny _ _ (if (((items.size : Int) - 1) == 0 && (-1 : Int) == 1 && items.size == items.size) = true then _ else _) _ _ s
  rw [if_neg hno, pick_rev]
  first
    | exact wpAny_bind (m := Builtin.Tuple.tupleExact _) (wpAny_newObj_type (wpAny_pure ⟨_, rfl, wpAny_pure h⟩) htake)
    | exact wpAny_bind (m := Builtin.Tuple.tupleExact _) (wpAny_newObj_type (wpAny_bind (wpAny_pure (wpAny_pure ⟨_, rfl, wpAny_pure h⟩))) htake)
    | exact wpAny_bind (wpAny_bind (m := Builtin.Tuple.tupleExact _) (wpAny_newObj_type (wpAny_pure (wpAny_pure ⟨_, rfl, wpAny_pure h⟩)) htake))
    | exact wpAny_bind (wpAny_bind (m := Builtin.Tuple.tupleExact _) (wpAny_newObj_type (wpAny_pure ⟨_, rfl, wpAny_pure h⟩) htake))
end
section
variable {X : Cx}
/-- t[::-1], t a tuple -/
def tRevT (K : PySem.W.Frag) (te : TE) : TE := fun σ H Q => te σ H fun x H1 => ∃ a xs, x = .ref a ∧ SqT K H1 a xs ∧ ∀ p, H1 p = none → Q (.ref p) (upd H1 p (.tup xs.reverse))
theorem pe_revT {e : Expr} {te : TE} {k : Nat} {p1 p2 p3 pos : Pos} (he : PE X e te) : PE X (.Subscript e (.Slice none none (some (.UnaryOp .USub (.Constant (.int 1) k p1) p2)) p3) pos) (tRevT X.K te) := by
  refine ⟨fun pins s σ H Q I h => ?_⟩
  refine Subscript_ (thn (he.run pins s σ H _ I h) fun v s1 ⟨x, H1, I1, r1, q1⟩ => ?_)
  obtain ⟨a, xs, ex, hx, q⟩ := q1
  subst ex
  cases r1
  have hst : PO X (some (.UnaryOp .USub (.Constant (.int 1) k p1) p2)) (tPart (tUn (rU fun i => .int (-i)) (tC (.int 1)))) := po_some (pe_un un_neg pe_int)
  refine wpAny_Slice (thn (po_none.run pins s1 σ H1 (fun o H2 => o = none ∧ H2 = H1) I1 ⟨rfl, rfl⟩) fun vl s2 ⟨l, H2, I2, pl, el, e2⟩ => ?_)
  subst el e2
  refine thn (po_none.run pins s2 σ H2 (fun o H3 => o = none ∧ H3 = H2) I2 ⟨rfl, rfl⟩) fun vu s3 ⟨u, H3, I3, pu, eu, e3⟩ => ?_
  subst eu e3
  refine thn (hst.run pins s3 σ H3 (fun o H4 => o = some (-1) ∧ H4 = H3) I3 ⟨1, rfl, -1, rfl, rfl, rfl⟩) fun vs s4 ⟨o, H4, I4, ps, eo, e4⟩ => ?_
  subst eo e4
  cases pl
  cases pu
  have I5 : L2.Inv X pins σ H4 { s4 with heap := s4.heap.push { cls := .type "slice", data := .fields #[.none, .none, vs] } } := I4.kept (t' := s4.toks) fun b ob q => Heap.get?_push_of_some _ q
  obtain ⟨its, r, ht, hz⟩ := I5.tuple hx
  have hlen := r.length
  show wpAny (model X.prog X.w) X.A (subscriptTail e (.Slice none none (some (.UnaryOp .USub (.Constant (.int 1) k p1) p2)) p3) (.ref a) (.ref s4.heap.objs.size)) (EP X pins σ Q) X.xe _
  refine tail_any (ops := [.ref a, .ref s4.heap.objs.size]) ht.typeIs (PyProof.Rows.slot_tuple_getitem.lookup) ?_ (by with_unfolding_all rfl)
  refine getItem_tup_rev ht (Heap.IsSliceOf.new _ .none .none vs) ps ?_ (by rw [List.size_toArray]; omega)
  refine ⟨.ref _, _, I5.laid (t' := s4.toks) (o := .tup xs.reverse) (fun b ob q => Heap.get?_push_of_some _ q) (Nat.le_refl _) ?_, rfl, q _ (I5.hok.fresh (Nat.le_refl _))⟩
  exact ⟨by rw [List.length_reverse]; exact hz, _, r.reverse, IsTup.new _ _⟩
end
end Pk
end
/-! The law's own look: the same as the mirror. -/
namespace Pk
open PySem L2
def letters : Str := "abcdefghijklmnopqrstuvwxyz"
theorem lettersL : letters.cps.toList = List.range' 97 26 := by decide +kernel
theorem in_letters (c : Nat) : decide (c ∈ letters.cps.toList) = smallC c := by
  rw [lettersL]
  unfold smallC
  by_cases h1 : 97 ≤ c <;> by_cases h2 : c ≤ 122 <;> simp [List.mem_range'_1, h1, h2] <;> omega
def spLName : Sp := fun vs H Q _ => ∃ (x : V) (d : PyData), vs = [x] ∧ Tr H x d ∧ okS d = true ∧ ∀ H', Same H H' → Q (.bl (nameD d)) H'
def spLDial : Sp := fun vs H Q _ => ∃ (x : V) (d : PyData), vs = [x] ∧ Tr H x d ∧ okS d = true ∧ ∀ H', Same H H' → Q (.bl (dialD d)) H'
def spLSay : Sp := fun vs H Q _ => ∃ (a : Addr) (ns : List Str) (x : V) (d : PyData), vs = [.ref a, x] ∧ H a = some (.lst (ns.map V.str)) ∧ Tr H x d ∧ ∀ H', Same H H' → Q (.bl (sayingD ns d)) H'
def spLRule : Sp := fun vs H Q _ => ∃ (a : Addr) (ns : List Str) (x : V) (d : PyData), vs = [.ref a, x] ∧ H a = some (.lst (ns.map V.str)) ∧ Tr H x d ∧ ∀ H', Same H H' → Q (.bl (ruleD ns d)) H'
theorem e18 : (10 : Int) ^ (18 : Int).toNat = farS := by decide +kernel
theorem e20 : (10 : Int) ^ (20 : Int).toNat = greatS := by decide +kernel
theorem e6 : (10 : Int) ^ (6 : Int).toNat = 1000000 := by decide +kernel
section
variable {P : Program} {w : World} {K : PySem.W.Frag} {mg : Str → Option Value} {base : Heap}
end
end Pk
namespace Pk
open PySem L2
abbrev sPen : Stmt := topH 41
abbrev sDraw : Stmt := topH 42
abbrev sPick : Stmt := topH 43
abbrev sNames : Stmt := topH 44
abbrev sDials : Stmt := topH 45
abbrev sLNums : Stmt := topH 46
abbrev sSay : Stmt := topH 47
abbrev sLSaid : Stmt := topH 48
abbrev sLRule : Stmt := topH 49
abbrev sHouseL : Stmt := topH 50
abbrev sLaw : Stmt := topH 61
theorem small {n : Nat} (h : n ≤ 1000) : n ≤ sizeLine := Nat.le_of_lt (small1000 h)
/-- all but p stays -/
def Sb (p : Addr) (H H' : Hp) : Prop := Same (del H p) (del H' p)
theorem Sb.of {p : Addr} {H H' : Hp} (h : ∀ b o, b ≠ p → H b = some o → H' b = some o) : Sb p H H' := fun b o e => by
  by_cases hb : b = p
  · subst hb
    rw [del_same] at e
    cases e
  · rw [del_ne hb] at e ⊢
    exact h b o hb e
theorem Sb.to {p : Addr} {H H' : Hp} (s : Sb p H H') {b : Addr} {o : HO} (hb : b ≠ p) (e : H b = some o) : H' b = some o := by
  have z := s b o (by rw [del_ne hb]; exact e)
  rw [del_ne hb] at z
  exact z
theorem Sb.same {p : Addr} {H H' : Hp} (s : Same H H') : Sb p H H' := .of fun b o _ e => s b o e
theorem Sb.trans {p : Addr} {H H1 H2 : Hp} (a : Sb p H H1) (b : Sb p H1 H2) : Sb p H H2 := Same.trans a b
theorem Sb.refl (p : Addr) (H : Hp) : Sb p H H := Same.refl _
theorem Sb.upd {p : Addr} {H : Hp} (o : HO) : Sb p H (upd H p o) := .of fun b u hb e => by rw [upd_ne hb]; exact e
/-- what stands apart from p stands -/
theorem delSame {p : Addr} {H : Hp} : Same (del H p) H := fun b o e => by
  by_cases hb : b = p
  · subst hb
    rw [del_same] at e
    cases e
  · rw [del_ne hb] at e
    exact e
theorem delNew {H : Hp} {p q : Addr} (h : p ≠ q) (hq : H q = none) (o : HO) : del (upd H q o) p q = some o := by
  rw [del_ne h.symm, upd_same]

/-- the pen: its cells at c, the turn, what is left of a great cell -/
abbrev penL (c : Addr) (t r : Int) : List V := [.ref c, .int t, .int r]
structure PenAt (H : Hp) (p c : Addr) (ns : List Int) (t r : Int) : Prop where
  at_ : H p = some (.lst (penL c t r))
  cells : H c = some (.lst (ns.map V.int))
  ne : c ≠ p
  len : ns.length ≤ 63
  t0 : 0 ≤ t
  r0 : 0 ≤ r
theorem PenAt.upd {H : Hp} {p c : Addr} {ns : List Int} {t r t' r' : Int} (P : PenAt H p c ns t r) (h1 : 0 ≤ t') (h2 : 0 ≤ r') : PenAt (upd H p (.lst (penL c t' r'))) p c ns t' r' :=
  ⟨upd_same, by rw [upd_ne P.ne]; exact P.cells, P.ne, P.len, h1, h2⟩
theorem PenAt.same {H H' : Hp} {p c : Addr} {ns : List Int} {t r : Int} (P : PenAt H p c ns t r) (s : Same H H') : PenAt H' p c ns t r := ⟨s _ _ P.at_, s _ _ P.cells, P.ne, P.len, P.t0, P.r0⟩
/-- a cell -/
theorem atCell {ns : List Int} {k : Int} (h0 : 0 ≤ k) (h : k < (ns.length : Int)) : ∃ v : Int, atI (ns.map V.int) k = some (.int v) := by
  have hk : k.toNat < ns.length := by omega
  have ek : k = ((k.toNat : Nat) : Int) := by omega
  have q : atI (ns.map V.int) ((k.toNat : Nat) : Int) = some (.int ns[k.toNat]) := atI_nat (by rw [List.getElem?_map, List.getElem?_eq_getElem hk] <;> rfl)
  rw [← ek] at q
  exact ⟨_, q⟩

theorem modB {a q : Int} (h : 0 < q) : 0 ≤ a % q ∧ a % q < q := ⟨Int.emod_nonneg a (by omega), Int.emod_lt_of_pos a h⟩
theorem mulL {i j : Int} (h1 : -18446744073709551616 < i) (h2 : i < 18446744073709551616) : CMul i j := .inl ⟨h1, h2⟩
theorem mulR {i j : Int} (h1 : -18446744073709551616 < j) (h2 : j < 18446744073709551616) : CMul i j := .inr ⟨h1, h2⟩
/-! ### promises -/
/-- _law_draw: a number below many; the pen goes on -/
theorem log_m {m : Int} (h1 : 1 ≤ m) (h2 : m ≤ 2000000000000000000) : m.natAbs.log2 < 9000 := by
  have h3 : m.natAbs ≠ 0 := by omega
  have h4 : m.natAbs.log2 < 64 := (Nat.log2_lt h3).mpr (by have : m.natAbs ≤ 2000000000000000000 := by omega
                                                           omega)
  omega
def spDraw : Sp := fun vs H Q _ => ∃ (p c : Addr) (ns : List Int) (t r m : Int), vs = [.ref p, .int m] ∧ PenAt H p c ns t r ∧ t ≤ 1000000000 ∧ 1 ≤ m ∧ m ≤ 2000000000000000000 ∧
  ∀ (v t' r' : Int) (H' : Hp), 0 ≤ v → v < m → t' ≤ t + 1 → PenAt H' p c ns t' r' → Sb p H H' → Q (.int v) H'
structure Blt (mg : Str → Option Value) : Prop where
  len : mg "len" = none
  abs : mg "abs" = none
  list : mg "list" = none
  tuple : mg "tuple" = none
  dict : mg "dict" = none
  isinstance : mg "isinstance" = none
  range : mg "range" = none
  repr : mg "repr" = none
  sorted : mg "sorted" = none
  min : mg "min" = none
  max : mg "max" = none
  int : mg "int" = none
  str : mg "str" = none
section
variable {P : Program} {w : World} {K : PySem.W.Frag} {mg : Str → Option Value} {base : Heap}
abbrev nDraw : List Str := ["_law_pen_here", "_law_many", "_law_found", "_law_at", "_law_cell", "_law_number"]
theorem scDraw : FnScope nDraw ["_law_pen_here", "_law_many"] (defScope sDraw) := ⟨rfl, rfl, rfl, by decide +kernel, rfl, by decide +kernel, by decide +kernel⟩
set_option maxHeartbeats 4000000 in
theorem ok_draw {f : Addr} {fd : FuncData} (F : Fun K "_law_draw" "_law_draw" sDraw f fd) (B : Blt mg) : FnOk P w K mg base CX0 1 f fd ["_law_pen_here", "_law_many"] spDraw := by
  refine F.ok scDraw (fun vs H Q E h => ?_) (fun cdv A outer s H vs Q E hr h => ?_)
  · obtain ⟨p, c, ns, t, r, m, rfl, _⟩ := h
    rfl
  obtain ⟨p, c, ns, t, r, m, rfl, pen, ht, hm1, hm2, k⟩ := h
  refine ⟨_, pss_cons (ps_if (pt_cmpR op_gt (pe_ix ix_list (pv 0) pe_int (fun _ _ => rfl)) pe_int (nomark _))
      (pss_cons (ps_set (i := 2) scDraw.nd rfl (.inl rfl) (pe_op op_mod (pe_ix ix_list (pv 0) pe_int (fun _ _ => rfl)) (pv 1)))
      (pss_cons (ps_asg (pe_op op_fdivW (pe_ix ix_list (pv 0) pe_int (fun _ _ => rfl)) (pv 1)) (pg_sub (pv 0) pe_int set_list))
      (pss_one (ps_ret (pv 2))))) pss_nil) <|
    pss_cons (ps_set (i := 3) scDraw.nd rfl (.inl rfl) (pe_ix ix_list (pv 0) pe_int (fun _ _ => rfl))) <|
    pss_cons (ps_asg (pe_op op_add (pv 3) pe_int) (pg_sub (pv 0) pe_int set_list)) <|
    pss_cons (ps_set (i := 4) scDraw.nd rfl (.inl rfl) pe_int) <|
    pss_cons (ps_if (pt_cmpR op_gt (pe_callB call_len_seq (by rfl) B.len PySem.boot_len (pa_cons (pe_ix ix_list (pv 0) pe_int (fun _ _ => rfl)) pa_nil)) pe_int (nomark _))
      (pss_one (ps_set (i := 4) scDraw.nd rfl (.inl rfl) (pe_callB call_abs (by rfl) B.abs (by decide +kernel) (pa_cons (pe_ix ix_list (pe_ix ix_list (pv 0) pe_int (fun _ _ => rfl)) (pe_op op_mod (pv 3) (pe_callB call_len_seq (by rfl) B.len PySem.boot_len (pa_cons (pe_ix ix_list (pv 0) pe_int (fun _ _ => rfl)) pa_nil))) (fun _ _ => rfl)) pa_nil)))) pss_nil) <|
    pss_cons (ps_if (PW.pt (pw_and (pt_cmpR op_lt (pv 3) (pe_callB call_len_seq (by rfl) B.len PySem.boot_len (pa_cons (pe_ix ix_list (pv 0) pe_int (fun _ _ => rfl)) pa_nil)) (nomark _))
        (pw_and1 (pt_cmpR op_ge (pv 4) (pe_op op_pow pe_int pe_int) (nomark _)))))
      (pss_cons (ps_asg (pe_op op_fdivW (pe_op op_sub (pv 4) (pe_op op_pow pe_int pe_int)) (pv 1)) (pg_sub (pv 0) pe_int set_list))
      (pss_one (ps_ret (pe_op op_mod (pe_op op_sub (pv 4) (pe_op op_pow pe_int pe_int)) (pv 1))))) pss_nil) <|
    pss_cons (ps_set (i := 5) scDraw.nd rfl (.inl rfl) (pe_op op_mod (pe_op op_mul (pe_op op_add (pe_op op_mod (pv 4) pe_int) pe_int) (pe_op op_add (pe_op op_add (pe_op op_mul (pv 3) (pv 3)) (pe_op op_mul pe_int (pv 3))) pe_int)) pe_int)) <|
    pss_cons (ps_set (i := 5) scDraw.nd rfl (.inl rfl) (pe_op op_mod (pe_op op_mul (pe_op op_mod (pe_op op_add (pe_op op_pow (pv 5) pe_int) (pe_op op_mul pe_int (pv 3))) pe_int) pe_int) pe_int)) <|
    pss_one (ps_ret (pe_op op_mod (pe_op op_fdiv (pv 5) pe_int) (pv 1))), ?_⟩
  -- is something left
  refine ⟨_, rfl, p, _, _, _, rfl, rfl, SqL.of pen.at_, (rfl : atI (penL c t r) 2 = some (.int r)), _, _, rfl, rfl, _, rfl, ?_⟩
  refine ite2 (fun cz => ?_) (fun cz => ?_)
  · refine ⟨_, rfl, p, _, _, _, rfl, rfl, SqL.of pen.at_, (rfl : atI (penL c t r) 2 = some (.int r)), _, rfl, _, _, rfl, rfl, (show (0 : Int) < m by omega), ?_⟩
    refine ⟨_, rfl, p, _, _, _, rfl, rfl, SqL.of pen.at_, (rfl : atI (penL c t r) 2 = some (.int r)), _, rfl, _, _, rfl, rfl, (show CDivW _ m from ⟨by omega, log_m hm1 hm2⟩), _, rfl, p, _, _, 2, rfl, rfl, pen.at_, rfl, ?_⟩
    refine ⟨_, rfl, ?_⟩
    exact k _ t (r / m) _ (Int.emod_nonneg _ (by omega)) (Int.emod_lt_of_pos _ (by omega)) (by omega) (pen.upd pen.t0 (Int.ediv_nonneg pen.r0 (by omega))) (Sb.upd _)
  -- a turn more
  refine ⟨_, rfl, p, _, _, _, rfl, rfl, SqL.of pen.at_, (rfl : atI (penL c t r) 1 = some (.int t)), ?_⟩
  refine ⟨_, rfl, _, _, rfl, rfl, _, rfl, p, _, _, 1, rfl, rfl, pen.at_, rfl, ?_⟩
  have pen1 : PenAt (upd H p (.lst ((penL c t r).set 1 (.int (t + 1))))) p c ns (t + 1) r := pen.upd (t' := t + 1) (r' := r) (by have := pen.t0; omega) pen.r0
  have s1 : Sb p H (upd H p (.lst ((penL c t r).set 1 (.int (t + 1))))) := Sb.upd _
  generalize upd H p (.lst ((penL c t r).set 1 (.int (t + 1)))) = H1 at pen1 s1 ⊢
  have hl : (ns.map V.int).length = ns.length := List.length_map _
  have ht0 := pen.t0
  refine ⟨_, rfl, p, _, _, _, rfl, rfl, SqL.of pen1.at_, (rfl : atI (penL c (t + 1) r) 0 = some (.ref c)), c, _, rfl, .inl (SqL.of pen1.cells), _, _, rfl, rfl, _, rfl, ?_⟩
  refine ite2 (fun cy => ?w1) (fun cy => ?w2)
  case' w1 =>
    have hne : 0 < ns.length := by
      have q := of_decide_eq_true cy
      rw [hl] at q
      omega
    have hb0 : 0 ≤ t % (ns.length : Int) := Int.emod_nonneg _ (by omega)
    have hb1 : t % (ns.length : Int) < (ns.length : Int) := Int.emod_lt_of_pos _ (by omega)
    obtain ⟨z, hz⟩ := atCell hb0 hb1
    refine ⟨_, rfl, p, _, _, _, rfl, rfl, SqL.of pen1.at_, (rfl : atI (penL c (t + 1) r) 0 = some (.ref c)), _, rfl, _, rfl, p, _, _, _, rfl, rfl, SqL.of pen1.at_, (rfl : atI (penL c (t + 1) r) 0 = some (.ref c)), c, _, rfl, .inl (SqL.of pen1.cells), _, _, rfl, rfl, (by show (0 : Int) < (((ns.map V.int).length : Nat) : Int); rw [hl]; omega), ?_⟩
    refine ⟨c, _, _, _, rfl, rfl, SqL.of pen1.cells, (by rw [hl]; exact hz), z, rfl, ?_⟩
    generalize (if z < 0 then -z else z) = cl
  case' w2 =>
    generalize (29 : Int) = cl
  all_goals
    -- a great cell
    refine ⟨_, rfl, _, rfl, p, _, _, _, rfl, rfl, SqL.of pen1.at_, (rfl : atI (penL c (t + 1) r) 0 = some (.ref c)), c, _, rfl, .inl (SqL.of pen1.cells), _, _, rfl, rfl, _, rfl, ?_⟩
    refine ite2 (fun cx => ?_) (fun cx => ?_)
    · refine ⟨_, rfl, _, _, rfl, rfl, ⟨by decide, by decide, by decide⟩, _, _, rfl, rfl, _, rfl, ?_⟩
      refine ite2 (fun cw => ?_) (fun cw => ?_)
      · have cw' := of_decide_eq_true cw
        refine ⟨_, rfl, _, _, rfl, rfl, ⟨by decide, by decide, by decide⟩, _, _, rfl, rfl, _, rfl, _, _, rfl, rfl, (show CDivW _ m from ⟨by omega, log_m hm1 hm2⟩), _, rfl, p, _, _, 2, rfl, rfl, pen1.at_, rfl, ?_⟩
        refine ⟨_, rfl, _, _, rfl, rfl, ⟨by decide, by decide, by decide⟩, _, _, rfl, rfl, _, rfl, _, _, rfl, rfl, (show (0 : Int) < m by omega), ?_⟩
        exact k _ (t + 1) _ _ (Int.emod_nonneg _ (by omega)) (Int.emod_lt_of_pos _ (by omega)) (by omega) (pen1.upd (by omega) (Int.ediv_nonneg (by omega) (by omega))) (s1.trans (Sb.upd _))
      · obtain ⟨z0, z1⟩ := modB (a := cl) (q := 2147483629) (by decide)
        refine ⟨_, rfl, _, _, rfl, rfl, (by show (0 : Int) < 2147483629; decide), _, _, rfl, rfl, _, rfl, _, rfl, _, _, rfl, rfl, mulL (by omega) (by omega), _, rfl, _, _, rfl, rfl, mulL (by decide) (by decide), _, _, rfl, rfl, _, _, rfl, rfl, _, _, rfl, rfl, mulL (by omega) (by omega), _, _, rfl, rfl, (by show (0 : Int) < 2147483647; decide), ?_⟩
        have x3 : CPow ((cl % 2147483629 + 31) * (t * t + 5 * t + 11) % 2147483647) 3 := by
          obtain ⟨x0, x2⟩ := modB (a := (cl % 2147483629 + 31) * (t * t + 5 * t + 11)) (q := 2147483647) (by decide)
          generalize (cl % 2147483629 + 31) * (t * t + 5 * t + 11) % 2147483647 = x1 at x0 x2 ⊢
          exact ⟨by decide, by decide, by omega⟩
        refine ⟨_, rfl, _, _, rfl, rfl, x3, _, rfl, _, _, rfl, rfl, mulL (by decide) (by decide), _, _, rfl, rfl, _, _, rfl, rfl, (by show (0 : Int) < 2147483587; decide), _, _, rfl, rfl, mulR (by decide) (by decide), _, _, rfl, rfl, (by show (0 : Int) < 2147483399; decide), ?_⟩
        refine ⟨_, rfl, _, _, rfl, rfl, ⟨by decide, by decide⟩, _, rfl, _, _, rfl, rfl, (show (0 : Int) < m by omega), ?_⟩
        exact k _ (t + 1) r _ (Int.emod_nonneg _ (by omega)) (Int.emod_lt_of_pos _ (by omega)) (by omega) pen1 s1
    · obtain ⟨z0, z1⟩ := modB (a := cl) (q := 2147483629) (by decide)
      refine ⟨_, rfl, _, _, rfl, rfl, (by show (0 : Int) < 2147483629; decide), _, _, rfl, rfl, _, rfl, _, rfl, _, _, rfl, rfl, mulL (by omega) (by omega), _, rfl, _, _, rfl, rfl, mulL (by decide) (by decide), _, _, rfl, rfl, _, _, rfl, rfl, _, _, rfl, rfl, mulL (by omega) (by omega), _, _, rfl, rfl, (by show (0 : Int) < 2147483647; decide), ?_⟩
      have x3 : CPow ((cl % 2147483629 + 31) * (t * t + 5 * t + 11) % 2147483647) 3 := by
        obtain ⟨x0, x2⟩ := modB (a := (cl % 2147483629 + 31) * (t * t + 5 * t + 11)) (q := 2147483647) (by decide)
        generalize (cl % 2147483629 + 31) * (t * t + 5 * t + 11) % 2147483647 = x1 at x0 x2 ⊢
        exact ⟨by decide, by decide, by omega⟩
      refine ⟨_, rfl, _, _, rfl, rfl, x3, _, rfl, _, _, rfl, rfl, mulL (by decide) (by decide), _, _, rfl, rfl, _, _, rfl, rfl, (by show (0 : Int) < 2147483587; decide), _, _, rfl, rfl, mulR (by decide) (by decide), _, _, rfl, rfl, (by show (0 : Int) < 2147483399; decide), ?_⟩
      refine ⟨_, rfl, _, _, rfl, rfl, ⟨by decide, by decide⟩, _, rfl, _, _, rfl, rfl, (show (0 : Int) < m by omega), ?_⟩
      exact k _ (t + 1) r _ (Int.emod_nonneg _ (by omega)) (Int.emod_lt_of_pos _ (by omega)) (by omega) pen1 s1
end
end Pk
namespace Pk
open PySem L2
/-! ### the pen's state, and what stands apart from some addresses -/
def PenC (H : Hp) (p c : Addr) (n : Int) : Prop := ∃ ns t r, PenAt H p c ns t r ∧ t ≤ n
theorem PenC.same {H H' : Hp} {p c : Addr} {n : Int} (P : PenC H p c n) (s : Same H H') : PenC H' p c n := let ⟨ns, t, r, h, e⟩ := P; ⟨ns, t, r, h.same s, e⟩
theorem PenC.mono {H : Hp} {p c : Addr} {n m : Int} (P : PenC H p c n) (h : n ≤ m) : PenC H p c m := let ⟨ns, t, r, h1, e⟩ := P; ⟨ns, t, r, h1, by omega⟩
theorem PenC.upd {H : Hp} {p c D : Addr} {n : Int} (P : PenC H p c n) (hp : D ≠ p) (hc : D ≠ c) (o : HO) : PenC (L2.upd H D o) p c n := by
  obtain ⟨ns, t, r, h, e⟩ := P
  exact ⟨ns, t, r, ⟨by rw [upd_ne hp.symm]; exact h.at_, by rw [upd_ne hc.symm]; exact h.cells, h.ne, h.len, h.t0, h.r0⟩, e⟩
theorem PenC.atp {H : Hp} {p c : Addr} {n : Int} (P : PenC H p c n) : ∃ kv, H p = some (.lst kv) := let ⟨_, _, _, h, _⟩ := P; ⟨_, h.at_⟩
theorem PenC.atc {H : Hp} {p c : Addr} {n : Int} (P : PenC H p c n) : ∃ xs, H c = some (.lst xs) := let ⟨_, _, _, h, _⟩ := P; ⟨_, h.cells⟩
theorem PenC.newp {H : Hp} {p c D : Addr} {n : Int} (P : PenC H p c n) (h : H D = none) : D ≠ p := fun z => by
  obtain ⟨kv, e⟩ := P.atp
  rw [z, e] at h
  cases h
theorem PenC.newc {H : Hp} {p c D : Addr} {n : Int} (P : PenC H p c n) (h : H D = none) : D ≠ c := fun z => by
  obtain ⟨kv, e⟩ := P.atc
  rw [z, e] at h
  cases h
theorem PenC.tupp {H : Hp} {p c D : Addr} {n : Int} {xs : List V} (P : PenC H p c n) (h : H D = some (.tup xs)) : D ≠ p := fun z => by
  obtain ⟨kv, e⟩ := P.atp
  rw [z, e] at h
  cases h
/-- but p, what stood stands -/
theorem Sb.new {p : Addr} {H H' : Hp} {D : Addr} (s : Sb p H H') (hD : H D = none) (hp : D ≠ p) (o : HO) : Sb p H (L2.upd H' D o) := .of fun b u hb e => by
  rw [upd_ne (ne_of_none e hD)]
  exact s.to hb e
theorem Sb.free {p l : Addr} {H H' : Hp} (s : Sb p H H') (hp : l ≠ p) (h : H' l = none) : H l = none := by
  cases e : H l with
  | none => rfl
  | some o => rw [s.to hp e] at h; cases h
theorem ints10 : (10 : Int) ^ (18 : Int).toNat = 1000000000000000000 := by decide +kernel
/-- _law_draw -/
def spDrawC : Sp := fun vs H Q _ => ∃ (p c : Addr) (n m : Int), vs = [.ref p, .int m] ∧ PenC H p c n ∧ n ≤ 1000000000 ∧ 1 ≤ m ∧ m ≤ 2000000000000000000 ∧ ∀ (v : Int) (H' : Hp), 0 ≤ v → v < m → PenC H' p c (n + 1) → Sb p H H' → Q (.int v) H'
theorem draw_imp : ∀ vs H Q E, spDrawC vs H Q E → spDraw vs H Q E := by
  rintro vs H Q E ⟨p, c, n, m, rfl, ⟨ns, t, r, h, e⟩, hn, m1, m2, k⟩
  exact ⟨p, c, ns, t, r, m, rfl, h, by omega, m1, m2, fun v t' r' H' v0 v1 ht' h' sb => k v H' v0 v1 ⟨ns, t', r', h', by omega⟩ sb⟩
/-- _law_pick: of a list, a tuple, or of a text's signs -/
def spPickL : Sp := fun vs H Q _ => ∃ (p c l : Addr) (n : Int) (xs : List V), vs = [.ref p, .ref l] ∧ PenC H p c n ∧ n ≤ 1000000000 ∧ l ≠ p ∧ (H l = some (.lst xs) ∨ H l = some (.tup xs)) ∧ 1 ≤ xs.length ∧ xs.length ≤ 1000000 ∧
  ∀ (x : V) (H' : Hp), x ∈ xs → PenC H' p c (n + 1) → Sb p H H' → Q x H'
def spPickS : Sp := fun vs H Q _ => ∃ (p c : Addr) (n : Int) (z : Str), vs = [.ref p, .str z] ∧ PenC H p c n ∧ n ≤ 1000000000 ∧ 1 ≤ z.length ∧ z.length ≤ 1000000 ∧
  ∀ (x : Nat) (H' : Hp), x ∈ z.cps.toList → PenC H' p c (n + 1) → Sb p H H' → Q (.str ⟨#[x]⟩) H'
def spPick : Sp := fun vs H Q E => spPickL vs H Q E ∨ spPickS vs H Q E
theorem seqIx {i : Int} {n : Nat} (h0 : 0 ≤ i) (h1 : i < n) : seqIndex? i n = some i.toNat := by
  have e : ¬ i < 0 := by omega
  unfold seqIndex?
  simp only [e, if_false]
  rw [if_pos (by simp; omega)]
theorem erase_map {α β : Type} (f : α → β) : ∀ (l : List α) (i : Nat), (l.map f).eraseIdx i = (l.eraseIdx i).map f
  | [], _ => by simp
  | _ :: _, 0 => by simp
  | _ :: l, i + 1 => by simp [erase_map f l i]
theorem perm_erase {α : Type} : ∀ {l : List α} {i : Nat} (h : i < l.length), (l[i] :: l.eraseIdx i).Perm l
  | [], _, h => absurd h (by simp)
  | x :: l, 0, _ => by simp
  | x :: l, i + 1, h => by
    have h' : i < l.length := by simpa using h
    have q := perm_erase h'
    rw [List.eraseIdx_cons_succ, List.getElem_cons_succ]
    exact (List.Perm.swap _ _ _).trans (List.Perm.cons x q)
section
variable {P : Program} {w : World} {K : PySem.W.Frag} {mg : Str → Option Value} {base : Heap}
theorem scPick : FnScope ["_law_pen_here", "_law_lot"] ["_law_pen_here", "_law_lot"] (defScope sPick) := ⟨rfl, rfl, rfl, by decide +kernel, rfl, by decide +kernel, by decide +kernel⟩
theorem ok_pick {f g : Addr} {fd gd : FuncData} (F : Fun K "_law_pick" "_law_pick" sPick f fd) (G : FnOk P w K mg base CX0 1 g gd ["_law_pen_here", "_law_many"] spDrawC) (bG : Binds K gd ["_law_pen_here", "_law_many"] []) (kG : PySem.W.keepIn K (.ref g) = true) (mG : mg "_law_draw" = some (.ref g)) (B : Blt mg) :
    FnOk P w K mg base CX0 2 f fd ["_law_pen_here", "_law_lot"] spPick := by
  refine F.ok scPick (fun vs H Q E h => ?_) (fun cdv A outer s H vs Q E hr h => ?_)
  · rcases h with ⟨p, c, l, n, xs, rfl, _⟩ | ⟨p, c, n, z, rfl, _⟩ <;> rfl
  refine ⟨_, pss_one (ps_ret (pe_ix ix_seq (pv 1) (pe_call G hr rfl mG kG bG .nil pass0 (pa_cons (pv 0) (pa_cons (pe_callB call_len (by rfl) B.len PySem.boot_len (pa_cons (pv 1) pa_nil)) pa_nil))) (fun _ _ => rfl))), ?_⟩
  rcases h with ⟨p, c, l, n, xs, rfl, pen, hn, lp, hl, l1, l2, k⟩ | ⟨p, c, n, z, rfl, pen, hn, l1, l2, k⟩
  · have ln : LenV K (.ref l) H xs.length := by
      rcases hl with hl | hl
      · exact .inl ⟨xs, SqL.of hl, rfl⟩
      · exact .inr ⟨xs, SqT.of hl, rfl⟩
    refine ⟨_, rfl, _, rfl, _, rfl, _, xs.length, rfl, ln, p, c, n, _, rfl, pen, hn, by omega, by omega, fun v H' v0 v1 pen' sb => ?_⟩
    have hv : v.toNat < xs.length := by omega
    have ev : v = ((v.toNat : Nat) : Int) := by omega
    have q : atI xs ((v.toNat : Nat) : Int) = some xs[v.toNat] := atI_nat (List.getElem?_eq_getElem hv)
    rw [← ev] at q
    rcases hl with hl | hl
    · exact .inl ⟨l, xs, v, _, rfl, rfl, SqL.of (sb.to lp hl), q, k _ H' (List.getElem_mem hv) pen' sb⟩
    · exact .inr (.inl ⟨l, xs, v, _, rfl, rfl, SqT.of (sb.to lp hl), q, k _ H' (List.getElem_mem hv) pen' sb⟩)
  · refine ⟨_, rfl, _, rfl, _, rfl, _, z.length, rfl, ⟨by have := sizeLine_eq; omega, rfl⟩, p, c, n, _, rfl, pen, hn, by omega, by omega, fun v H' v0 v1 pen' sb => ?_⟩
    have hz : z.cps.toList.length = z.length := Array.length_toList
    have hv : v.toNat < z.cps.toList.length := by omega
    have ev : v = ((v.toNat : Nat) : Int) := by omega
    have q : atI z.cps.toList ((v.toNat : Nat) : Int) = some z.cps.toList[v.toNat] := atI_nat (List.getElem?_eq_getElem hv)
    rw [← ev] at q
    exact .inr (.inr ⟨z, v, _, rfl, rfl, by have := sizeLine_eq; omega, q, k _ H' (List.getElem_mem hv) pen' sb⟩)
end
end Pk
/-! Names drawn: unlike ones. -/
namespace Pk
open PySem
theorem nodup_at {ss : List Str} {pre : List Nat} {c : Nat → Nat} (h : ∀ j z, ss[j]? = some z → ∃ tl, z.cps.toList = pre ++ c j :: tl) (inj : ∀ i j, i < ss.length → j < ss.length → c i = c j → i = j) : ss.Nodup := by
  unfold List.Nodup
  rw [List.pairwise_iff_getElem]
  intro i j hi hj hij e
  obtain ⟨t1, e1⟩ := h i _ (List.getElem?_eq_getElem hi)
  obtain ⟨t2, e2⟩ := h j _ (List.getElem?_eq_getElem hj)
  rw [e, e2] at e1
  have e3 := List.append_cancel_left e1
  have := inj j i hj hi (List.cons.inj e3).1
  omega
theorem nodup_set {ss : List Str} {pre : List Nat} {c : Nat → Nat} {k : Nat} {y : Str} (h : ∀ j z, ss[j]? = some z → ∃ tl, z.cps.toList = pre ++ c j :: tl) (inj : ∀ i j, i < ss.length → j < ss.length → c i = c j → i = j) (hy : y.cps.toList = pre) : (ss.set k y).Nodup := by
  have out : ∀ z ∈ ss, z ≠ y := fun z hz e => by
    obtain ⟨j, hj, ej⟩ := List.getElem_of_mem hz
    obtain ⟨tl, e1⟩ := h j z (by rw [List.getElem?_eq_getElem hj, ej])
    rw [e, hy] at e1
    have := congrArg List.length e1
    simp at this
  have nd := nodup_at h inj
  unfold List.Nodup at nd ⊢
  rw [List.pairwise_iff_getElem] at nd ⊢
  intro i j hi hj hij e
  rw [List.getElem_set, List.getElem_set] at e
  rw [List.length_set] at hi hj
  by_cases c1 : k = i
  · rw [if_pos c1, if_neg (by omega)] at e
    exact out _ (List.getElem_mem hj) e.symm
  · rw [if_neg c1] at e
    by_cases c2 : k = j
    · rw [if_pos c2] at e
      exact out _ (List.getElem_mem hi) e
    · rw [if_neg c2] at e
      exact nd i j hi hj hij e
def byL : List Int := [1, 3, 5, 7, 9, 11, 15, 17, 19, 21, 23, 25]
theorem inj26 {fi b : Int} (hb : b ∈ byL) {i j : Nat} (hi : i < 12) (hj : j < 12) (h : 97 + ((fi + b * (i : Int)) % 26).toNat = 97 + ((fi + b * (j : Int)) % 26).toNat) : i = j := by
  simp only [byL, List.mem_cons, List.not_mem_nil, or_false] at hb
  have p1 := Int.emod_nonneg (fi + b * (i : Int)) (show (26 : Int) ≠ 0 by decide)
  have p2 := Int.emod_nonneg (fi + b * (j : Int)) (show (26 : Int) ≠ 0 by decide)
  have h' : (fi + b * (i : Int)) % 26 = (fi + b * (j : Int)) % 26 := by omega
  rcases hb with rfl | rfl | rfl | rfl | rfl | rfl | rfl | rfl | rfl | rfl | rfl | rfl <;> omega
/-! Texts in their order -/
theorem lt_of_le_ne {a b : Str} (h : ¬ b.cps.toList < a.cps.toList) (hn : a ≠ b) : leS b a = false := by
  unfold leS
  have : a.cps.toList < b.cps.toList := by
    rcases Decidable.em (a.cps.toList < b.cps.toList) with q | q
    · exact q
    · exfalso
      have e := List.le_antisymm (show a.cps.toList ≤ b.cps.toList from h) (show b.cps.toList ≤ a.cps.toList from q)
      apply hn
      cases a
      cases b
      congr 1
      exact Array.ext' e
  simp [this]
end Pk
namespace Pk
open PySem L2
/-- a name by form: few signs, each a letter -/
def nmOk (z : Str) : Prop := z.length ≤ 30 ∧ ∀ c ∈ z.cps.toList, smallC c = true
theorem len_cps (z : Str) : z.cps.toList.length = z.length := Array.length_toList
theorem cps_app (a b : Str) : (a ++ b).cps.toList = a.cps.toList ++ b.cps.toList := by
  show (a.cps ++ b.cps).toList = _
  rw [Array.toList_append]
theorem join_cps {e : Str} (he : e.cps.toList = []) : ∀ ys : List Str, (Str.join e ys).cps.toList = (ys.map fun y => y.cps.toList).flatten
  | [] => rfl
  | [x] => by simp [Str.join]
  | x :: y :: r => by
    show (x ++ e ++ Str.join e (y :: r)).cps.toList = _
    rw [cps_app, cps_app, he, join_cps he (y :: r)]
    simp
theorem join_signs (cs : List Nat) : (Txt.join ("" : Str) (cs.map fun c => (⟨#[c]⟩ : Str))).cps.toList = cs := by
  unfold Txt.join
  rw [StrLaws.glued_eq_join, join_cps rfl, List.map_map]
  induction cs with
  | nil => rfl
  | cons c cs ih => simpa using ih
theorem cutS_cps (z : Str) (lo hi : Option Int) : (cutS z lo hi).cps.toList = (z.cps.toList.drop (HT.sIx z.length 0 lo)).take (HT.sIx z.length z.length hi - HT.sIx z.length 0 lo) := by
  unfold cutS
  simp
theorem cutS_mem {z : Str} {lo hi : Option Int} {c : Nat} (h : c ∈ (cutS z lo hi).cps.toList) : c ∈ z.cps.toList := by
  rw [cutS_cps] at h
  exact List.mem_of_mem_drop (List.mem_of_mem_take h)
theorem cutS_len (z : Str) (lo hi : Option Int) : (cutS z lo hi).length ≤ z.length := by
  rw [← len_cps, cutS_cps, ← len_cps z]
  simp only [List.length_take, List.length_drop]
  omega
theorem app_len (a b : Str) : (a ++ b).length = a.length + b.length := by
  rw [← len_cps, cps_app, List.length_append, len_cps, len_cps]
theorem cut_from {xs : List V} {i : Nat} (h : i ≤ xs.length) : cutV xs (some (i : Int)) none = xs.drop i := by
  unfold cutV
  rw [HT.sIx_none, HT.sIx_nat, Nat.min_eq_left h, List.take_of_length_le (by simp)]
theorem cut_to {xs : List V} {i : Nat} (h : i ≤ xs.length) : cutV xs none (some (i : Int)) = xs.take i := by
  unfold cutV
  rw [HT.sIx_none, HT.sIx_nat, Nat.min_eq_left h, List.drop_zero, Nat.sub_zero]
theorem sum_signs : ∀ cs : List Nat, ((cs.map fun x => (⟨#[x]⟩ : Str)).map (·.length)).sum = cs.length
  | [] => rfl
  | c :: cs => by
    simp only [List.map_cons, List.sum_cons, List.length_cons, sum_signs cs]
    show 1 + cs.length = _
    omega
theorem cutS_to (z : Str) (i : Nat) : (cutS z none (some (i : Int))).cps.toList = z.cps.toList.take (min i z.length) := by
  rw [cutS_cps, HT.sIx_none, HT.sIx_nat, List.drop_zero, Nat.sub_zero]
theorem cutS_from_len (z : Str) (i : Nat) : (cutS z (some (i : Int)) none).length ≤ z.length - i := by
  rw [← len_cps, cutS_cps, HT.sIx_none, HT.sIx_nat]
  simp only [List.length_take, List.length_drop, len_cps]
  omega
theorem letters_ok : ∀ c ∈ letters.cps.toList, smallC c = true := fun c hc => by rw [← in_letters, decide_eq_true hc]
theorem letters_len : letters.length = 26 := by decide +kernel
/-- the dict of names -/
def kvT (ks : List Str) : List (Key × V) := ks.map fun z => (Sum.inr z, V.bl true)
def insN (ks : List Str) (z : Str) : List Str := if z ∈ ks then ks else ks ++ [z]
theorem put_T (ks : List Str) (z : Str) : putK (kvT ks) (Sum.inr z) (.bl true) = kvT (insN ks z) := by
  unfold putK insN kvT
  by_cases c : z ∈ ks
  · rw [if_pos c, if_pos, List.map_map]
    · apply List.map_congr_left
      intro x _
      show (if (Sum.inr x : Key) = Sum.inr z then (Sum.inr x, V.bl true) else (Sum.inr x, V.bl true)) = _
      split <;> rfl
    · rw [List.any_eq_true]
      exact ⟨_, List.mem_map.mpr ⟨z, c, rfl⟩, by simp⟩
  · rw [if_neg c, if_neg, List.map_append]
    · rfl
    · rw [List.any_eq_true]
      rintro ⟨kv, hk, ek⟩
      obtain ⟨x, hx, rfl⟩ := List.mem_map.mp hk
      exact c (by rw [← Sum.inr.inj (of_decide_eq_true ek)]; exact hx)
theorem insN_nd {ks : List Str} {z : Str} (h : ks.Nodup) : (insN ks z).Nodup := by
  unfold insN
  by_cases c : z ∈ ks
  · rw [if_pos c]; exact h
  · rw [if_neg c, List.nodup_append]
    refine ⟨h, by simp, fun a ha b hb e => ?_⟩
    rw [List.mem_singleton.mp hb] at e
    exact c (e ▸ ha)
theorem insN_len (ks : List Str) (z : Str) : (insN ks z).length ≤ ks.length + 1 ∧ 1 ≤ (insN ks z).length := by
  unfold insN
  by_cases c : z ∈ ks
  · rw [if_pos c]
    exact ⟨by omega, List.length_pos_of_mem c⟩
  · rw [if_neg c]
    simp
theorem insN_mem {ks : List Str} {z x : Str} (h : x ∈ insN ks z) : x ∈ ks ∨ x = z := by
  unfold insN at h
  by_cases c : z ∈ ks
  · rw [if_pos c] at h; exact .inl h
  · rw [if_neg c] at h
    rcases List.mem_append.mp h with h | h
    · exact .inl h
    · exact .inr (List.mem_singleton.mp h)
def spNames : Sp := fun vs H Q _ => ∃ (p c : Addr) (n : Int) (m : Nat), vs = [.ref p, .int (m : Nat)] ∧ PenC H p c n ∧ n ≤ 400000000 ∧ 1 ≤ m ∧ m ≤ 12 ∧
  ∀ (l : Addr) (ss : List Str) (H' : Hp), PenC H' p c (n + 30) → Sb p H H' → H l = none → H' l = some (.lst (ss.map V.str)) → 1 ≤ ss.length → ss.length ≤ m → (∀ z ∈ ss, nmOk z) → (∀ z ∈ ss, 1 ≤ z.length ∧ z.length ≤ 8) → ss.Nodup → PyProof.Rows.sortedS ss = true → Q (.ref l) H'
abbrev nNames : List Str := ["_law_pen_here", "_law_many", "_law_found", "_law_letters", "_law_base", "_law_k", "_law_at", "_law_by"]
section
variable {P : Program} {w : World} {K : PySem.W.Frag} {mg : Str → Option Value} {base : Heap}
theorem scNames : FnScope nNames ["_law_pen_here", "_law_many"] (defScope sNames) := ⟨rfl, rfl, rfl, by decide +kernel, rfl, by decide +kernel, by decide +kernel⟩
set_option maxHeartbeats 1000000 in
theorem ok_names {f g g2 : Addr} {fd gd gd2 : FuncData} (F : Fun K "_law_names" "_law_names" sNames f fd) (G : FnOk P w K mg base CX0 1 g gd ["_law_pen_here", "_law_many"] spDrawC) (bG : Binds K gd ["_law_pen_here", "_law_many"] []) (kG : PySem.W.keepIn K (.ref g) = true) (mG : mg "_law_draw" = some (.ref g))
    (G2 : FnOk P w K mg base CX0 2 g2 gd2 ["_law_pen_here", "_law_lot"] spPick) (bG2 : Binds K gd2 ["_law_pen_here", "_law_lot"] []) (kG2 : PySem.W.keepIn K (.ref g2) = true) (mG2 : mg "_law_pick" = some (.ref g2)) (B : Blt mg) :
    FnOk P w K mg base CX0 3 f fd ["_law_pen_here", "_law_many"] spNames := by
  refine F.ok scNames (fun vs H Q E h => ?_) (fun cdv A outer s H vs Q E hr h => ?_)
  · obtain ⟨p, c, n, m, rfl, _⟩ := h
    rfl
  obtain ⟨p, c, n, m, rfl, pen, hn, m1, m2, k⟩ := h
  have hu := hu_of hr
  have hr1 : Room 1 _ := hr.mono (by decide)
  refine ⟨_, pss_cons (ps_asg (pe_tup (pa_cons pe_dnewK (pa_cons pe_str pa_nil))) (pg_tup (by rfl) (pgs_cons (pg_name (i := 2) scNames.nd rfl (.inl rfl)) <| pgs_cons (pg_name (i := 3) scNames.nd rfl (.inr rfl)) pgs_nil))) <|
    pss_cons (ps_set (i := 4) scNames.nd rfl (.inl rfl) (pe_join pe_str (pe_lc (own := [("_law_k", 5)]) (g := gName 5) (by rfl) scNames.nd (pi_range1 (by rfl) B.range (pa_cons (pe_op op_add pe_int (pe_call G hr1 rfl mG kG bG .nil pass0 (pa_cons (pv 0) (pa_cons pe_int pa_nil)))) pa_nil)) (blkOk_by (N := nNames) (sc := defScope sNames) (by decide +kernel)) (fun _ _ _ _ _ => pg_name (i := 5) scNames.nd rfl (Or.inl rfl)) (fun _ _ _ _ _ => pts_nil) (fun _ _ _ _ _ => pe_call G2 hr rfl mG2 kG2 bG2 .nil pass0 (pa_cons (pv 0) (pa_cons (pv 3) pa_nil)))))) <|
    pss_cons (ps_par (i := 6) (j := 7) (by rfl) scNames.nd rfl rfl (by decide) rfl rfl (pa_cons (pe_call G hr1 rfl mG kG bG .nil pass0 (pa_cons (pv 0) (pa_cons pe_int pa_nil))) (pa_cons (pe_call G2 hr rfl mG2 kG2 bG2 .nil pass0 (pa_cons (pv 0) (pa_cons (pe_lst (pa_cons pe_int <| pa_cons pe_int <| pa_cons pe_int <| pa_cons pe_int <| pa_cons pe_int <| pa_cons pe_int pa_nil)) pa_nil))) pa_nil)) (by rfl)) <|
    pss_cons (ps_for PassesOwn.never rfl (pi_range1 rfl B.range (pa_cons (pv 1) pa_nil)) (pg_name (i := 5) scNames.nd rfl (.inl rfl))
      (pss_one (ps_dput hu (pv 2) (pe_op op_add_str (pe_slice sl_str (pv 4) po_none (po_some (pe_call G hr1 rfl mG kG bG .nil pass0 (pa_cons (pv 0) (pa_cons (pe_op op_add (pe_callB call_len_str (by rfl) B.len PySem.boot_len (pa_cons (pv 4) pa_nil)) pe_int) pa_nil))))) (pe_ix ix_str (pv 3) (pe_op op_mod (pe_op op_add (pv 6) (pe_op op_mul (pv 7) (pv 5))) pe_int) (fun _ _ => rfl))) pe_bl rfl))) <|
    pss_one (ps_ret (pe_callB (call_sortedD rfl) (by rfl) B.sorted (by decide +kernel) (pa_cons (pv 2) pa_nil))), ?_⟩
  intro D hD
  have sD := sameNew hD (.dK [])
  refine ⟨by show 2 ≤ sizeLine; decide, fun T nT => ?_⟩
  have sT := sameNew nT (.tup [.ref D, .str ("abcdefghijklmnopqrstuvwxyz" : Str)])
  refine ⟨T, _, rfl, SqT.of upd_same, rfl, _, _, rfl, _, _, rfl, rfl, ?_⟩
  have Dp := pen.newp hD
  have Dc := pen.newc hD
  have pen2 := (pen.same sD).same sT
  have sb2 : Sb p H _ := (Sb.same sD).trans (Sb.same sT)
  have hD2 := sT _ _ (upd_same (H := H) (a := D) (o := .dK []))
  generalize L2.upd (L2.upd H D (.dK [])) T (.tup [.ref D, .str ("abcdefghijklmnopqrstuvwxyz" : Str)]) = H2 at pen2 sb2 hD2
  refine ⟨⟨_, rfl⟩, _, rfl, p, c, n, _, rfl, pen2, by omega, by decide, by decide, fun v3 H3 b0 b1 pen3 sb3' => ?_⟩
  have sb3 := sb2.trans sb3'
  have hD3 := sb3'.to Dp hD2
  refine ⟨_, _, rfl, rfl, _, rfl, by omega, by omega, fun L hL => lc_range (lo := 0) (n := (1 + v3).toNat) (fun i H4 => ∃ cs : List Nat, H4 L = some (.lst ((cs.map fun x => (⟨#[x]⟩ : Str)).map V.str)) ∧ cs.length = i ∧ (∀ x ∈ cs, smallC x = true) ∧ PenC H4 p c (n + 1 + i) ∧ Sb p H3 H4)
    ⟨[], upd_same, rfl, fun _ h => absurd h (by simp), (pen3.same (sameNew hL _)).mono (by omega), Sb.same (sameNew hL _)⟩ ?_ ?_⟩
  · rintro i H4 hi ⟨cs, e1, e2, e3, pen4, sb4⟩
    have Lp := pen3.newp hL
    have Lc := pen3.newc hL
    refine ⟨rfl, _, rfl, _, rfl, .inr ⟨p, c, n + 1 + i, letters, rfl, pen4, by omega, by rw [letters_len]; decide, by rw [letters_len]; decide, fun x H5 hx pen5 sb5 => ?_⟩⟩
    refine ⟨_, sb5.to Lp e1, small1000 (by simp only [List.length_map]; omega), cs ++ [x], ?_, by simp [e2], fun y hy => ?_, ?_, ?_⟩
    · rw [upd_same, List.map_append, List.map_append]
      rfl
    · rcases List.mem_append.mp hy with hy | hy
      · exact e3 y hy
      · rw [List.mem_singleton.mp hy]
        exact letters_ok x hx
    · exact (pen5.upd Lp Lc _).mono (by omega)
    · exact (sb4.trans sb5).new hL Lp _
  rintro H4 ⟨cs, e1, e2, e3, pen4, sb4'⟩
  have sb4 := sb3.trans sb4'
  have hD4 := sb4'.to Dp hD3
  have hcl : cs.length ≤ 7 ∧ 1 ≤ cs.length := by omega
  refine ⟨_, L, cs.map fun x => (⟨#[x]⟩ : Str), rfl, rfl, .inl (SqL.of e1), ?_, ?_⟩
  · rw [sum_signs, List.length_map]
    show cs.length + cs.length * 0 ≤ _
    omega
  have hzb := join_signs cs
  generalize Txt.join (Str.ofString "") (cs.map fun x => (⟨#[x]⟩ : Str)) = zb at hzb ⊢
  have hzl : zb.length = cs.length := by rw [← len_cps, hzb]
  have hzc : ∀ x ∈ zb.cps.toList, smallC x = true := by rw [hzb]; exact e3
  have hz9 : zb.length ≤ sizeLine := small (by omega)
  clear e1 hzb
  refine ⟨_, rfl, p, c, _, _, rfl, pen4, by omega, by decide, by decide, fun at_ H5 b2 b3 pen5 sb5 => ?_⟩
  refine ⟨_, rfl, by show 6 ≤ sizeLine; decide, fun e he => ?_⟩
  have sE := sameNew he (.lst [.int 1, .int 3, .int 5, .int 7, .int 9, .int 11])
  refine .inl ⟨p, c, e, _, _, rfl, pen5.same sE, by omega, pen5.newp he, .inl upd_same, by simp, by simp, fun x H8 hx pen8 sb8 => ?_⟩
  have sC := sb4.trans (sb5.trans ((Sb.same sE).trans sb8))
  have hD8 := sb8.to Dp (sE _ _ (sb5.to Dp hD4))
  obtain ⟨by_, rfl, b8, b9⟩ : ∃ b : Int, x = .int b ∧ 1 ≤ b ∧ b ≤ 11 := by
    simp only [List.mem_cons, List.not_mem_nil, or_false] at hx
    rcases hx with rfl | rfl | rfl | rfl | rfl | rfl <;> exact ⟨_, rfl, by decide, by decide⟩
  generalize hN : n + 1 + (((1 + v3).toNat : Nat) : Int) + 1 + 1 = N at pen8
  refine ⟨_, _, rfl, _, rfl, _, rfl, by omega, by omega, ?_⟩
  rw [Int.toNat_natCast]
  refine for_range (n := m) (fun i σ H9 => ∃ (v5 : Option V) (ks : List Str), σ = [some (.ref p), some (.int (m : Nat)), some (.ref D), some (.str letters), some (.str zb), v5, some (.int at_), some (.int by_)] ∧ H9 D = some (.dK (kvT ks)) ∧ ks.length ≤ i ∧ (1 ≤ i → 1 ≤ ks.length) ∧ (∀ z ∈ ks, nmOk z) ∧ (∀ z ∈ ks, 1 ≤ z.length ∧ z.length ≤ 8) ∧ ks.Nodup ∧ PenC H9 p c (N + i) ∧ Sb p H H9)
    ⟨none, [], rfl, hD8, by simp, by omega, fun _ h => absurd h (by simp), fun _ h => absurd h (by simp), List.nodup_nil, pen8.mono (by omega), sC⟩ ?_ ?_
  · rintro i σ H9 hi ⟨v5, ks, rfl, f1, f2, f3, f4, f5, f6, pen9, sb9⟩
    rw [Int.zero_add]
    obtain ⟨ch, hch⟩ : ∃ ch, atI letters.cps.toList ((at_ + by_ * ((i : Nat) : Int)) % 26) = some ch := by
      have q0 := Int.emod_nonneg (at_ + by_ * ((i : Nat) : Int)) (show (26 : Int) ≠ 0 by decide)
      have q1 := Int.emod_lt_of_pos (at_ + by_ * ((i : Nat) : Int)) (show (0 : Int) < 26 by decide)
      generalize (at_ + by_ * ((i : Nat) : Int)) % 26 = ix at q0 q1
      have hv : ix.toNat < letters.cps.toList.length := by rw [len_cps, letters_len]; omega
      have q : atI letters.cps.toList ((ix.toNat : Nat) : Int) = some letters.cps.toList[ix.toNat] := atI_nat (List.getElem?_eq_getElem hv)
      rw [show ((ix.toNat : Nat) : Int) = ix by omega] at q
      exact ⟨_, q⟩
    have hch2 : smallC ch = true := by
      have q : ch ∈ letters.cps.toList := by
        unfold atI at hch
        obtain ⟨j, _, hj⟩ := Option.bind_eq_some_iff.mp hch
        exact List.mem_of_getElem? hj
      exact letters_ok ch q
    refine ⟨_, rfl, _, rfl, _, rfl, _, rfl, zb, rfl, hz9, _, _, rfl, rfl, p, c, _, _, rfl, pen9, by omega, by omega, by omega, fun cu H10 c0 c1 pen10 sb10 => ?_⟩
    refine ⟨cu, rfl, zb, rfl, hz9, _, rfl, _, rfl, _, rfl, _, rfl, _, _, rfl, rfl, mulL (by omega) (by omega), _, _, rfl, rfl, _, _, rfl, rfl, (by show (0 : Int) < 26; decide), letters, _, ch, rfl, rfl, by rw [letters_len]; decide, hch, ?_⟩
    have hc1 := cutS_len zb none (some cu)
    have hs9 := sizeLine_eq
    have h11 : (⟨#[ch]⟩ : Str).length = 1 := rfl
    have hD10 := sb10.to Dp f1
    refine ⟨_, _, rfl, rfl, by rw [h11]; omega, D, _, rfl, .inl ⟨_, .inr _, hD10, rfl, by unfold kvT; rw [List.length_map]; exact small1000 (by omega), rfl⟩, ?_⟩
    rw [put_T]
    generalize hzz : cutS zb none (some cu) ++ ⟨#[ch]⟩ = zz
    have z1 : zz.length ≤ 8 ∧ 1 ≤ zz.length := by rw [← hzz, app_len, h11]; omega
    have z2 : nmOk zz := by
      refine ⟨by omega, fun x hx => ?_⟩
      rw [← hzz, cps_app] at hx
      rcases List.mem_append.mp hx with hx | hx
      · exact hzc x (cutS_mem hx)
      · have : x = ch := by simpa using hx
        rw [this]
        exact hch2
    have il := insN_len ks zz
    refine ⟨_, insN ks zz, rfl, upd_same, by omega, fun _ => il.2, fun z hz => ?_, fun z hz => ?_, insN_nd f6, (pen10.upd Dp Dc _).mono (by omega), (sb9.trans sb10).new hD Dp _⟩
    · rcases insN_mem hz with hz | rfl
      · exact f4 z hz
      · exact z2
    · rcases insN_mem hz with hz | rfl
      · exact f5 z hz
      · exact ⟨z1.2, z1.1⟩
  rintro σ H9 ⟨v5, ks, rfl, f1, f2, f3, f4, f5, f6, pen9, sb9⟩
  refine ⟨_, rfl, D, _, ks, rfl, .inl f1, by unfold kvT; simp, by omega, fun ys l perm srt hl => ?_⟩
  have sl := sameNew hl (.lst (ys.map V.str))
  have le := perm.length_eq
  exact k l ys _ ((pen9.same sl).mono (by omega)) (sb9.trans (Sb.same sl)) (sb9.free (pen9.newp hl) hl) upd_same (by have := f3 m1; omega) (by omega) (fun z hz => f4 z (perm.mem_iff.mp hz)) (fun z hz => f5 z (perm.mem_iff.mp hz)) (perm.nodup_iff.mpr f6) srt
end
end Pk
namespace Pk
open PySem L2
def spDialL : Sp := fun vs H Q _ => ∃ (p c : Addr) (n wd : Int) (nm : Str), vs = [.ref p, .str nm, .int wd] ∧ 0 ≤ wd ∧ wd ≤ 100 ∧ PenC H p c n ∧ n ≤ 300000000 ∧
  ∀ (t : Addr) (lo hi up dn : Int) (way : Str) (H' : Hp), PenC H' p c (n + 40) → Sb p H H' → H t = none → H' t = some (.tup [.str nm, .int lo, .int hi, .str way, .int up, .int dn]) → -farS ≤ lo → lo ≤ hi → hi ≤ farS → way ∈ ways3 → 1 ≤ up → up ≤ 1000000 → 1 ≤ dn → dn ≤ 1000000 → Q (.ref t) H'
def spSayL : Sp := fun vs H Q _ => ∃ (p c a b : Addr) (n : Int) (ss : List Str) (is : List Int), vs = [.ref p, .ref a, .ref b] ∧ PenC H p c n ∧ n ≤ 300000000 ∧ H a = some (.lst (ss.map V.str)) ∧ 1 ≤ ss.length ∧ ss.length ≤ 40 ∧ H b = some (.lst (is.map V.int)) ∧ 1 ≤ is.length ∧ is.length ≤ 40 ∧ (∀ i ∈ is, -farS ≤ i ∧ i ≤ farS) ∧
  ∀ (t : Addr) (z so : Str) (i : Int) (H' : Hp), PenC H' p c (n + 20) → Sb p H H' → H t = none → H' t = some (.tup [.str z, .str so, .int i]) → z ∈ ss → so ∈ sorts2 → -greatS ≤ i → i ≤ greatS → Q (.ref t) H'
def kvOf (e : Str × Int) : Key × V := (Sum.inr e.1, .int e.2)
theorem val_kv {z : Str} : ∀ {es : List (Str × Int)}, z ∈ es.map (·.1) → ∃ i, (z, i) ∈ es ∧ valV (es.map kvOf) (Sum.inr z) = some (.int i)
  | [], h => absurd h (by simp)
  | (y, i) :: es, h => by
    by_cases e : y = z
    · subst e
      refine ⟨i, List.mem_cons_self, ?_⟩
      unfold valV
      rw [List.map_cons, List.find?_cons_of_pos (by simp [kvOf])]
      rfl
    · have h' : z ∈ es.map (·.1) := by
        rcases List.mem_cons.mp h with h | h
        · exact absurd h.symm e
        · exact h
      obtain ⟨j, h1, h2⟩ := val_kv h'
      refine ⟨j, List.mem_cons_of_mem _ h1, ?_⟩
      unfold valV at h2 ⊢
      rw [List.map_cons, List.find?_cons_of_neg (by simpa [kvOf] using e)]
      exact h2
theorem dg_kv {H : Hp} {d : Addr} {es : List (Str × Int)} {z : Str} {i : Int} (h : H d = some (.dK (es.map kvOf))) (hv : valV (es.map kvOf) (Sum.inr z) = some (.int i)) : DGet H d (.str z) (some (.int i)) := .inl ⟨_, .inr z, .inl h, rfl, hv.symm⟩
/-- the number of a name -/
def lookE (es : List (Str × Int)) (z : Str) : Int := match valV (es.map kvOf) (Sum.inr z) with
  | some (.int i) => i
  | _ => 0
theorem look_dg {H : Hp} {d : Addr} {es : List (Str × Int)} {z : Str} (h : H d = some (.dK (es.map kvOf))) (hz : z ∈ es.map (·.1)) : DGet H d (.str z) (some (.int (lookE es z))) := by
  obtain ⟨i, _, e⟩ := val_kv hz
  have q : lookE es z = i := by
    unfold lookE
    rw [e]
  rw [q]
  exact dg_kv h e
def holdsS (f : Str → Int) : PyData → Bool
  | .tuple [.str z, .str so, .int i] => if decide (so = "least") = true then decide (i ≤ f z) else decide (f z ≤ i)
  | _ => false
def ruleH (f : Str → Int) : PyData → Bool
  | .tuple [_, p, q] => holdsS f p || holdsS f q
  | .tuple [.str w, .str a, .str b, .int c] => if decide (w = "off") = true then decide (f a ≤ f b + c) else if decide (w = "most") = true then decide (f a + f b ≤ c) else decide (c ≤ f a + f b)
  | _ => false
def spTSay : Sp := fun vs H Q _ => ∃ (p c d : Addr) (n sl : Int) (es : List (Str × Int)), vs = [.ref p, .ref d, .int sl] ∧ PenC H p c n ∧ n ≤ 300000000 ∧ H d = some (.dK (es.map kvOf)) ∧ 1 ≤ es.length ∧ es.length ≤ 40 ∧ (∀ e ∈ es, -farS ≤ e.2 ∧ e.2 ≤ farS) ∧ 0 ≤ sl ∧ sl ≤ 5 ∧
  ∀ (t : Addr) (z so : Str) (i : Int) (H' : Hp), PenC H' p c (n + 20) → Sb p H H' → H t = none → H' t = some (.tup [.str z, .str so, .int i]) → z ∈ es.map (·.1) → so ∈ sorts2 → -greatS ≤ i → i ≤ greatS → holdsS (lookE es) (.tuple [.str z, .str so, .int i]) = true → Q (.ref t) H'
theorem sorts_mem {x : V} (h : x ∈ [V.str "least", V.str "most"]) : ∃ so ∈ sorts2, x = .str so := by
  simp only [List.mem_cons, List.not_mem_nil, or_false] at h
  rcases h with rfl | rfl
  · exact ⟨_, by decide +kernel, rfl⟩
  · exact ⟨_, by decide +kernel, rfl⟩
theorem farG : farS = 1000000000000000000 := rfl
theorem greatG : greatS = 100000000000000000000 := rfl
theorem kv_keys (es : List (Str × Int)) : (es.map kvOf).map (fun kv => kV kv.1) = (es.map (·.1)).map V.str := by
  simp only [List.map_map]
  rfl
section
variable {P : Program} {w : World} {K : PySem.W.Frag} {mg : Str → Option Value} {base : Heap}
end
end Pk
/-! What stands apart from some addresses; data that is small enough. -/
namespace Pk
open PySem L2
def zn (X : List Addr) (H : Hp) : Hp := fun b => if b ∈ X then none else H b
theorem zn_in {X : List Addr} {H : Hp} {b : Addr} (h : b ∈ X) : zn X H b = none := if_pos h
theorem zn_out {X : List Addr} {H : Hp} {b : Addr} (h : b ∉ X) : zn X H b = H b := if_neg h
theorem zn_some {X : List Addr} {H : Hp} {b : Addr} {o : HO} (h : zn X H b = some o) : b ∉ X ∧ H b = some o := by
  by_cases hb : b ∈ X
  · rw [zn_in hb] at h
    cases h
  · rw [zn_out hb] at h
    exact ⟨hb, h⟩
theorem zn_le {X : List Addr} {H : Hp} : Same (zn X H) H := fun _ _ e => (zn_some e).2
theorem zn_mono {X : List Addr} {H H' : Hp} (s : Same H H') : Same (zn X H) (zn X H') := fun b o e => by
  obtain ⟨h1, h2⟩ := zn_some e
  rw [zn_out h1]
  exact s _ _ h2
theorem zn_sb {X : List Addr} {p : Addr} {H H' : Hp} (s : Sb p H H') (hp : p ∈ X) : Same (zn X H) (zn X H') := fun b o e => by
  obtain ⟨h1, h2⟩ := zn_some e
  rw [zn_out h1]
  exact s.to (fun z => h1 (z ▸ hp)) h2
theorem zn_drop {X : List Addr} {D : Addr} {H : Hp} : Same (zn (D :: X) H) (zn X H) := fun b o e => by
  obtain ⟨h1, h2⟩ := zn_some e
  rw [zn_out fun z => h1 (List.mem_cons_of_mem _ z)]
  exact h2
theorem zn_fresh {X : List Addr} {D : Addr} {H : Hp} (h : H D = none) : Same (zn X H) (zn (D :: X) H) := fun b o e => by
  obtain ⟨h1, h2⟩ := zn_some e
  rw [zn_out fun z => by
    rcases List.mem_cons.mp z with z | z
    · rw [z, h] at h2
      cases h2
    · exact h1 z]
  exact h2
theorem zn_upd {X : List Addr} {D : Addr} {H : Hp} {o : HO} (hD : D ∈ X) : Same (zn X H) (zn X (upd H D o)) := fun b u e => by
  obtain ⟨h1, h2⟩ := zn_some e
  have hb : b ≠ D := fun z => h1 (by rw [z]; exact hD)
  rw [zn_out h1, upd_ne hb]
  exact h2
/-- the addresses are taken; p is one of them -/
structure Al (p : Addr) (X : List Addr) (H : Hp) : Prop where
  mem : p ∈ X
  alc : ∀ b ∈ X, ∃ o, H b = some o
theorem Al.out {p t : Addr} {X : List Addr} {H : Hp} (a : Al p X H) (h : H t = none) : t ∉ X := fun z => by
  obtain ⟨o, e⟩ := a.alc t z
  rw [e] at h
  cases h
theorem Al.sb {p c : Addr} {n : Int} {X : List Addr} {H H' : Hp} (a : Al p X H) (s : Sb p H H') (h : PenC H' p c n) : Al p X H' := ⟨a.mem, fun b hb => by
  by_cases e : b = p
  · subst e
    obtain ⟨kv, h⟩ := h.atp
    exact ⟨_, h⟩
  · obtain ⟨o, ho⟩ := a.alc b hb
    exact ⟨o, s.to e ho⟩⟩
theorem Al.same {p : Addr} {X : List Addr} {H H' : Hp} (a : Al p X H) (s : Same H H') : Al p X H' := ⟨a.mem, fun b hb => let ⟨o, ho⟩ := a.alc b hb; ⟨o, s _ _ ho⟩⟩
theorem Al.upd {p : Addr} {X : List Addr} {H : Hp} {D : Addr} {o : HO} (a : Al p X H) : Al p X (L2.upd H D o) := ⟨a.mem, fun b hb => by
  by_cases e : b = D
  · subst e
    exact ⟨o, upd_same⟩
  · obtain ⟨u, hu⟩ := a.alc b hb
    exact ⟨u, by rw [upd_ne e]; exact hu⟩⟩
theorem Al.new {p : Addr} {X : List Addr} {H : Hp} {D : Addr} {o : HO} (a : Al p X H) (h : H D = none) : Al p (D :: X) (L2.upd H D o) := ⟨List.mem_cons_of_mem _ a.mem, fun b hb => by
  rcases List.mem_cons.mp hb with e | hb
  · rw [e]
    exact ⟨o, upd_same⟩
  · exact (a.upd (D := D) (o := o)).alc b hb⟩
/-! ### data that is small enough -/
def oddDict : List (PyData × PyData) → Bool
  | [] => true
  | [(.str z, .int i)] => decide (z = "a") && decide (i = 0)
  | _ => false
mutual
def lv (k : Nat) : PyData → Bool
  | .none | .bool _ => true
  | .int i => decide (i.natAbs ≤ 10 ^ 60 + k)
  | .str z => z.cps.toList.all fun c => decide (c ≤ 2000000 * (k + 1))
  | .list xs | .tuple xs => lvs k xs
  | .dict es => oddDict es
def lvs (k : Nat) : List PyData → Bool
  | [] => true
  | x :: xs => lv k x && lvs k xs
end
theorem lvs_all {k : Nat} : ∀ {ds : List PyData}, (∀ d ∈ ds, lv k d = true) → lvs k ds = true
  | [], _ => rfl
  | d :: ds, h => by
    rw [lvs, h d List.mem_cons_self, lvs_all fun e he => h e (List.mem_cons_of_mem _ he)]
    rfl
theorem lvs_mem {k : Nat} : ∀ {ds : List PyData} {d : PyData}, lvs k ds = true → d ∈ ds → lv k d = true
  | [], _, _, h => absurd h (by simp)
  | x :: xs, d, e, h => by
    rw [lvs, Bool.and_eq_true] at e
    rcases List.mem_cons.mp h with h | h
    · rw [h]; exact e.1
    · exact lvs_mem e.2 h
mutual
theorem lv_mono {k : Nat} : ∀ {d : PyData}, lv k d = true → lv (k + 1) d = true
  | .none, _ => rfl
  | .bool _, _ => rfl
  | .int i, h => by
    simp only [lv, decide_eq_true_eq] at h ⊢
    omega
  | .str z, h => by
    simp only [lv, List.all_eq_true, decide_eq_true_eq] at h ⊢
    intro c hc
    have := h c hc
    omega
  | .list xs, h => by
    simp only [lv] at h ⊢
    exact lvs_mono h
  | .tuple xs, h => by
    simp only [lv] at h ⊢
    exact lvs_mono h
  | .dict es, h => by simpa only [lv] using h
theorem lvs_mono {k : Nat} : ∀ {ds : List PyData}, lvs k ds = true → lvs (k + 1) ds = true
  | [], _ => rfl
  | d :: ds, h => by
    rw [lvs, Bool.and_eq_true] at h ⊢
    exact ⟨lv_mono h.1, lvs_mono h.2⟩
end
theorem bulk_mem : ∀ {ds : List PyData} {d : PyData}, d ∈ ds → d.bulk + 1 ≤ PyData.bulkAll ds
  | [], _, h => absurd h (by simp)
  | x :: xs, d, h => by
    rw [PyData.bulkAll]
    rcases List.mem_cons.mp h with h | h
    · rw [h]; omega
    · have := bulk_mem h
      omega
theorem bulk_len : ∀ ds : List PyData, ds.length ≤ PyData.bulkAll ds
  | [] => by simp
  | x :: xs => by
    have := bulk_len xs
    rw [PyData.bulkAll, List.length_cons]
    omega
theorem bulk_app : ∀ (as bs : List PyData), PyData.bulkAll (as ++ bs) = PyData.bulkAll as + PyData.bulkAll bs
  | [], bs => by simp [PyData.bulkAll]
  | a :: as, bs => by
    rw [List.cons_append, PyData.bulkAll, PyData.bulkAll, bulk_app as bs]
    omega
theorem depth_mem : ∀ {ds : List PyData} {d : PyData}, d ∈ ds → d.depth ≤ PyData.depthAll ds
  | [], _, h => absurd h (by simp)
  | x :: xs, d, h => by
    rw [PyData.depthAll]
    rcases List.mem_cons.mp h with h | h
    · rw [h]; omega
    · have := depth_mem h
      omega
theorem depth_all {n : Nat} : ∀ {ds : List PyData}, (∀ d ∈ ds, d.depth ≤ n) → PyData.depthAll ds ≤ n
  | [], _ => by simp [PyData.depthAll]
  | d :: ds, h => by
    have h1 := h d List.mem_cons_self
    have h2 := depth_all fun e he => h e (List.mem_cons_of_mem _ he)
    rw [PyData.depthAll]
    omega
theorem bulk_all {n : Nat} : ∀ {ds : List PyData}, (∀ d ∈ ds, d.bulk ≤ n) → PyData.bulkAll ds ≤ (n + 1) * ds.length
  | [], _ => by simp [PyData.bulkAll]
  | d :: ds, h => by
    have h1 := h d List.mem_cons_self
    have h2 := bulk_all fun e he => h e (List.mem_cons_of_mem _ he)
    rw [PyData.bulkAll, List.length_cons, Nat.mul_succ]
    omega
theorem lay_all : ∀ {ds : List PyData}, (∀ d ∈ ds, d.canLay0 = true) → PyData.canLayAll0 ds = true
  | [], _ => by simp only [PyData.canLayAll0]
  | d :: ds, h => by
    rw [PyData.canLayAll0, h d List.mem_cons_self, lay_all fun e he => h e (List.mem_cons_of_mem _ he)]
    rfl
theorem int_short {i : Int} {k : Nat} (hk : k ≤ 10) (h : i.natAbs ≤ 10 ^ 60 + k) : i.natAbs.log2 < 1920 ∧ (PyData.shown (.int i)).length ≤ 100 := by
  have h1 : i.natAbs < 10 ^ 61 := by
    have : (10 : Nat) ^ 60 + 10 < 10 ^ 61 := by decide +kernel
    omega
  constructor
  · by_cases h0 : i.natAbs = 0
    · rw [h0]; decide
    · rw [Nat.log2_lt h0]
      exact Nat.lt_trans h1 (by decide +kernel)
  · have h2 := int_text_length_le10 (k := 61) (by decide) h1
    have e : (PyData.shown (.int i)).length = (toString i).length := by
      simp only [PyData.shown]
      exact ofString_length _
    omega
mutual
/-- what the looks ask of data -/
theorem lv_ok {k : Nat} (hk : k ≤ 10) : ∀ {d : PyData}, lv k d = true → d.bulk ≤ 100000 → okS d = true ∧ d.showable = true ∧ d.leavesShort 100 = true
  | .none, _, _ => ⟨rfl, rfl, rfl⟩
  | .bool _, _, _ => ⟨rfl, rfl, rfl⟩
  | .int i, h, _ => by
    simp only [lv, decide_eq_true_eq] at h
    obtain ⟨a, b⟩ := int_short hk h
    exact ⟨rfl, by simp only [PyData.showable, decide_eq_true_eq]; exact a, by simp only [PyData.leavesShort, decide_eq_true_eq]; exact b⟩
  | .str z, h, hb => by
    simp only [lv, List.all_eq_true, decide_eq_true_eq] at h
    simp only [PyData.bulk] at hb
    refine ⟨by simp only [okS, decide_eq_true_eq]; exact hb, rfl, ?_⟩
    simp only [PyData.leavesShort, List.all_eq_true, decide_eq_true_eq]
    intro c hc
    have q := h c hc
    have e : (16 : Nat) ^ 8 = 4294967296 := by decide
    have : 2000000 * (k + 1) ≤ 22000000 := by omega
    omega
  | .list xs, h, hb => by
    simp only [lv] at h
    simp only [PyData.bulk] at hb
    simpa only [okS, PyData.showable, PyData.leavesShort] using lvs_ok hk h hb
  | .tuple xs, h, hb => by
    simp only [lv] at h
    simp only [PyData.bulk] at hb
    simpa only [okS, PyData.showable, PyData.leavesShort] using lvs_ok hk h hb
  | .dict es, h, hb => by
    simp only [lv] at h
    unfold oddDict at h
    split at h
    · exact ⟨rfl, rfl, rfl⟩
    · rename_i z i
      rw [Bool.and_eq_true, decide_eq_true_eq, decide_eq_true_eq] at h
      obtain ⟨rfl, rfl⟩ := h
      exact ⟨by decide +kernel, by decide +kernel, by decide +kernel⟩
    · cases h
theorem lvs_ok {k : Nat} (hk : k ≤ 10) : ∀ {ds : List PyData}, lvs k ds = true → PyData.bulkAll ds ≤ 100000 → okSs ds = true ∧ PyData.showableAll ds = true ∧ PyData.leavesShortAll 100 ds = true
  | [], _, _ => ⟨rfl, rfl, rfl⟩
  | d :: ds, h, hb => by
    rw [lvs, Bool.and_eq_true] at h
    rw [PyData.bulkAll] at hb
    obtain ⟨a1, a2, a3⟩ := lv_ok hk h.1 (by omega)
    obtain ⟨b1, b2, b3⟩ := lvs_ok hk h.2 (by omega)
    exact ⟨by rw [okSs, a1, b1]; rfl, by rw [PyData.showableAll, a2, b2]; rfl, by rw [PyData.leavesShortAll, a3, b3]; rfl⟩
end
theorem lv_shown {k : Nat} (hk : k ≤ 10) {d : PyData} (h : lv k d = true) (hb : d.bulk ≤ 100000) : d.shown.length ≤ sizeLine := by
  have h1 := PyData.shown_le_bulk 100 (by decide) d (lv_ok hk h hb).2.2
  rw [sizeLine_eq]
  omega
end Pk
namespace Pk
open PySem L2
structure RuleG (ns : List Str) (r : PyData) : Prop where
  rule : ruleD ns r = true
  lay : r.canLay0 = true
  depth : r.depth ≤ 2
  bulk : r.bulk ≤ 120
  lv : lv 0 r = true
theorem nm_str {z : Str} (h : nmOk z) : PyData.strOk z = true ∧ Pk.lv 0 (.str z) = true ∧ z.cps.size ≤ 30 := by
  refine ⟨?_, ?_, h.1⟩
  · unfold PyData.strOk
    rw [← Array.all_toList, List.all_eq_true]
    intro c hc
    have q := h.2 c hc
    simp only [smallC, Bool.and_eq_true, decide_eq_true_eq] at q
    simp only [decide_eq_true_eq]
    omega
  · simp only [Pk.lv, List.all_eq_true, decide_eq_true_eq]
    intro c hc
    have q := h.2 c hc
    simp only [smallC, Bool.and_eq_true, decide_eq_true_eq] at q
    omega
theorem great_lt : greatS.natAbs * 10 ≤ 10 ^ 60 := by decide +kernel
theorem int_lv {i : Int} (h1 : -(10 * greatS) ≤ i) (h2 : i ≤ 10 * greatS) : Pk.lv 0 (.int i) = true := by
  simp only [Pk.lv, decide_eq_true_eq]
  have := great_lt
  have := greatG
  omega
structure SayG (ns : List Str) (r : PyData) : Prop where
  say : sayingD ns r = true
  lay : r.canLay0 = true
  depth : r.depth ≤ 1
  bulk : r.bulk ≤ 50
  lv : Pk.lv 0 r = true
theorem words_nm : ∀ z ∈ (["one", "off", "most", "least", "both", "up", "down"] : List Str), nmOk z := by
  have h : ∀ z ∈ (["one", "off", "most", "least", "both", "up", "down"] : List Str), z.length ≤ 30 ∧ z.cps.toList.all smallC = true := by decide +kernel
  exact fun z hz => ⟨(h z hz).1, fun c hc => List.all_eq_true.mp (h z hz).2 c hc⟩
theorem sort_size : ∀ z ∈ sorts2, z.cps.size ≤ 5 := by decide +kernel
theorem sort_nm {z : Str} (h : z ∈ sorts2) : nmOk z := by
  have e : ∀ z ∈ sorts2, z ∈ (["one", "off", "most", "least", "both", "up", "down"] : List Str) := by decide +kernel
  exact words_nm z (e z h)
theorem pair_nm {z : Str} (h : z ∈ pairs3) : nmOk z := by
  have e : ∀ z ∈ pairs3, z ∈ (["one", "off", "most", "least", "both", "up", "down"] : List Str) := by decide +kernel
  exact words_nm z (e z h)
theorem way_nm {z : Str} (h : z ∈ ways3) : nmOk z := by
  have e : ∀ z ∈ ways3, z ∈ (["one", "off", "most", "least", "both", "up", "down"] : List Str) := by decide +kernel
  exact words_nm z (e z h)
theorem inS_of {zs : List Str} {z : Str} (h : z ∈ zs) : inS zs (.str z) = true := by
  unfold inS
  rw [List.any_eq_true]
  exact ⟨z, h, by simp [strIs]⟩
theorem say_of {ns : List Str} {z so : Str} {i : Int} (h : z ∈ ns) (hs : so ∈ sorts2) (h1 : -greatS ≤ i) (h2 : i ≤ greatS) : sayingD ns (.tuple [.str z, .str so, .int i]) = true := by
  show (inS ns (.str z) && (inS sorts2 (.str so) && wholeD (-greatS) greatS (.int i))) = true
  rw [inS_of h, inS_of hs, wholeD, decide_eq_true h1, decide_eq_true h2]
  rfl
theorem say_g {ns : List Str} {z so : Str} {i : Int} (hz : z ∈ ns) (h : nmOk z) (hs : so ∈ sorts2) (g1 : -greatS ≤ i) (g2 : i ≤ greatS) : SayG ns (.tuple [.str z, .str so, .int i]) := by
  have gg := greatG
  have h1 : -(10 * greatS) ≤ i := by omega
  have h2 : i ≤ 10 * greatS := by omega
  obtain ⟨a1, a2, a3⟩ := nm_str h
  obtain ⟨b1, b2, _⟩ := nm_str (sort_nm hs)
  have b3 := sort_size so hs
  have c := int_lv h1 h2
  refine ⟨say_of hz hs g1 g2, by simp [PyData.canLay0, PyData.canLayAll0, a1, b1], by simp [PyData.depth, PyData.depthAll], ?_, by simp only [Pk.lv, lvs, Bool.and_true, Bool.and_eq_true] at *; exact ⟨a2, b2, c⟩⟩
  simp only [PyData.bulk, PyData.bulkAll]
  omega
theorem rule_one {ns : List Str} {a b : PyData} (ha : SayG ns a) (hb : SayG ns b) : RuleG ns (.tuple [.str "one", a, b]) := by
  have o : PyData.strOk ("one" : Str) = true := by decide +kernel
  have l : Pk.lv 0 (.str "one") = true := by decide +kernel
  have z : ("one" : Str).cps.size = 3 := by decide +kernel
  have d1 := ha.depth
  have d2 := hb.depth
  have e1 := ha.bulk
  have e2 := hb.bulk
  refine ⟨?_, by simp [PyData.canLay0, PyData.canLayAll0, ha.lay, hb.lay, o], ?_, ?_, ?_⟩
  · show (strIs "one" (.str "one") && (sayingD ns a && sayingD ns b)) = true
    rw [ha.say, hb.say]
    simp [strIs]
  · simp only [PyData.depth, PyData.depthAll]
    omega
  · simp only [PyData.bulk, PyData.bulkAll, z]
    omega
  · rw [Pk.lv, lvs, lvs, lvs, l, ha.lv, hb.lv]
    rfl
theorem rule_pair_of {ns : List Str} {w a b : Str} {i : Int} (hw : w ∈ pairs3) (za : a ∈ ns) (zb : b ∈ ns) (ne : a ≠ b) (g1 : -greatS ≤ i) (g2 : i ≤ greatS) : ruleD ns (.tuple [.str w, .str a, .str b, .int i]) = true := by
  show (inS pairs3 (.str w) && (inS ns (.str a) && (inS ns (.str b) && (!sameS (.str a) (.str b) && wholeD (-greatS) greatS (.int i))))) = true
  rw [inS_of hw, inS_of za, inS_of zb, wholeD, decide_eq_true g1, decide_eq_true g2]
  simp [sameS, ne]
theorem rule_pair {ns : List Str} {w a b : Str} {i : Int} (hw : w ∈ pairs3) (za : a ∈ ns) (zb : b ∈ ns) (ne : a ≠ b) (ha : nmOk a) (hb : nmOk b) (g1 : -greatS ≤ i) (g2 : i ≤ greatS) : RuleG ns (.tuple [.str w, .str a, .str b, .int i]) := by
  have gg := greatG
  have h1 : -(10 * greatS) ≤ i := by omega
  have h2 : i ≤ 10 * greatS := by omega
  obtain ⟨w1, w2, w3⟩ := nm_str (pair_nm hw)
  obtain ⟨a1, a2, a3⟩ := nm_str ha
  obtain ⟨b1, b2, b3⟩ := nm_str hb
  have c := int_lv h1 h2
  refine ⟨rule_pair_of hw za zb ne g1 g2, by simp [PyData.canLay0, PyData.canLayAll0, a1, b1, w1], by simp [PyData.depth, PyData.depthAll], ?_, ?_⟩
  · simp only [PyData.bulk, PyData.bulkAll]
    omega
  · rw [Pk.lv, lvs, lvs, lvs, lvs, w2, a2, b2, c]
    rfl
def spTRule : Sp := fun vs H Q _ => ∃ (p c d : Addr) (X : List Addr) (n sl : Int) (es : List (Str × Int)), vs = [.ref p, .ref d, .int sl] ∧ PenC H p c n ∧ Al p X H ∧ n ≤ 200000000 ∧ H d = some (.dK (es.map kvOf)) ∧ 1 ≤ es.length ∧ es.length ≤ 12 ∧ (∀ e ∈ es, nmOk e.1 ∧ -farS ≤ e.2 ∧ e.2 ≤ farS) ∧ (es.map (·.1)).Nodup ∧ 0 ≤ sl ∧ sl ≤ 5 ∧
  ∀ (t : Addr) (r : PyData) (H' : Hp), PenC H' p c (n + 100) → Sb p H H' → Tr (zn X H') (.ref t) r → RuleG (es.map (·.1)) r → ruleH (lookE es) r = true → Q (.ref t) H'
abbrev nTRule : List Str := ["_law_pen_here", "_law_at", "_law_slack", "_law_names_here", "_law_way", "_law_by", "_law_one", "_law_two", "_law_name", "_law_both"]
section
variable {P : Program} {w : World} {K : PySem.W.Frag} {mg : Str → Option Value} {base : Heap}
end
end Pk
namespace Pk
open PySem L2
/-- a dial by its kinds -/
def DialG (d : PyData) : Prop := ∃ (nm way : Str) (lo hi up dn : Int), d = .tuple [.str nm, .int lo, .int hi, .str way, .int up, .int dn] ∧ nmOk nm ∧ (1 ≤ nm.length ∧ nm.length ≤ 8) ∧ way ∈ ways3 ∧ -farS ≤ lo ∧ lo ≤ hi ∧ hi ≤ farS ∧ 1 ≤ up ∧ up ≤ 1000000 ∧ 1 ≤ dn ∧ dn ≤ 1000000
theorem dial_lv {d : PyData} (h : DialG d) : lv 0 d = true ∧ d.bulk ≤ 80 ∧ d.depth ≤ 1 := by
  obtain ⟨nm, way, lo, hi, up, dn, rfl, h1, _, h2, b1, b2, b3, b4, b5, b6, b7⟩ := h
  obtain ⟨_, a2, a3⟩ := nm_str h1
  obtain ⟨_, w2, w3⟩ := nm_str (way_nm h2)
  have fg := farG
  have gg := greatG
  have i1 := int_lv (i := lo) (by omega) (by omega)
  have i2 := int_lv (i := hi) (by omega) (by omega)
  have i3 := int_lv (i := up) (by omega) (by omega)
  have i4 := int_lv (i := dn) (by omega) (by omega)
  refine ⟨?_, ?_, ?_⟩
  · rw [lv, lvs, lvs, lvs, lvs, lvs, lvs, a2, i1, i2, w2, i3, i4]
    rfl
  · simp only [PyData.bulk, PyData.bulkAll]
    omega
  · simp only [PyData.depth, PyData.depthAll]
    omega
theorem dial_tup {H : Hp} {x : V} {d : PyData} (t : Tr H x d) (h : DialG d) : ∃ (b : Addr) (nm way : Str) (lo hi up dn : Int), x = .ref b ∧ H b = some (.tup [.str nm, .int lo, .int hi, .str way, .int up, .int dn]) ∧ -farS ≤ lo ∧ lo ≤ hi ∧ hi ≤ farS ∧ nmOk nm ∧ d = .tuple [.str nm, .int lo, .int hi, .str way, .int up, .int dn] := by
  obtain ⟨nm, way, lo, hi, up, dn, rfl, h1, _, h2, b1, b2, b3, _⟩ := h
  cases t with
  | @tup b xs _ hb al =>
    match xs, al with
    | [_, _, _, _, _, _], .cons (.str _) (.cons (.int _) (.cons (.int _) (.cons (.str _) (.cons (.int _) (.cons (.int _) .nil))))) => exact ⟨b, nm, way, lo, hi, up, dn, rfl, hb, b1, b2, b3, h1, rfl⟩
theorem dial_ok {d : PyData} (h : DialG d) : dialD d = true := by
  obtain ⟨nm, way, lo, hi, up, dn, rfl, h1, h0, h2, b1, b2, b3, b4, b5, b6, b7⟩ := h
  have e1 : nameD (.str nm) = true := by
    rw [nameD_str, decide_eq_true (by omega), decide_eq_true (by omega), List.all_eq_true.mpr h1.2]
    rfl
  show (nameD (.str nm) && (inS ways3 (.str way) && (wholeD (-farS) farS (.int lo) && (wholeD lo farS (.int hi) && (wholeD 1 1000000 (.int up) && wholeD 1 1000000 (.int dn)))))) = true
  rw [e1, inS_of h2, wholeD_int, wholeD_int, wholeD_int, wholeD_int, decide_eq_true b1, decide_eq_true (show lo ≤ farS by omega), decide_eq_true b2, decide_eq_true b3, decide_eq_true b4, decide_eq_true b5, decide_eq_true b6, decide_eq_true b7]
  rfl
theorem dial_name_of {d : PyData} (h : DialG d) : nmOk (nameOf d) ∧ 1 ≤ (nameOf d).length ∧ (nameOf d).length ≤ 8 := by
  obtain ⟨nm, way, lo, hi, up, dn, rfl, h1, h0, _⟩ := h
  exact ⟨h1, h0⟩
theorem rise_none : ∀ {ds : List PyData} {k : Nat} {p : Str}, (∀ d ∈ ds, dialD d = true) → PyProof.Rows.risingS p (ds.map nameOf) = true → (p :: ds.map nameOf).Nodup → fDial k (some p) ds = none
  | [], _, _, _, _, _ => rfl
  | d :: ds, k, p, hd, hr, nd => by
    rw [List.map_cons, PyProof.Rows.risingS, Bool.and_eq_true] at hr
    rw [List.map_cons] at nd
    rw [fDial_cons, if_pos (hd d List.mem_cons_self)]
    have e : leS (nameOf d) p = false := by
      refine lt_of_le_ne (a := p) ?_ fun z => ?_
      · have q := hr.1
        rw [PyProof.Rows.ltCps_eq] at q
        simpa using q
      · rw [List.nodup_cons] at nd
        exact nd.1 (by rw [z]; exact List.mem_cons_self)
    simp only [e]
    exact rise_none (fun x hx => hd x (List.mem_cons_of_mem _ hx)) hr.2 (List.nodup_cons.mp nd).2
theorem fd_none {ds : List PyData} (hd : ∀ d ∈ ds, dialD d = true) (hs : PyProof.Rows.sortedS (ds.map nameOf) = true) (nd : (ds.map nameOf).Nodup) : fDial 0 none ds = none := by
  cases ds with
  | nil => rfl
  | cons d ds =>
    rw [fDial_cons, if_pos (hd d List.mem_cons_self)]
    exact rise_none (fun x hx => hd x (List.mem_cons_of_mem _ hx)) hs nd
theorem fr_snoc {ns : List Str} {r : PyData} (hr : ruleD ns r = true) : ∀ {rs : List PyData} {k : Nat} {past : List PyData}, fRule ns k past rs = none → ((past ++ rs).any fun z => PyData.eqv z r) = false → fRule ns k past (rs ++ [r]) = none
  | [], k, past, _, h2 => by
    rw [List.append_nil] at h2
    rw [List.nil_append, fRule_cons, if_pos hr, h2]
    rfl
  | x :: rs, k, past, h1, h2 => by
    rw [fRule_cons] at h1
    rw [List.cons_append, fRule_cons]
    by_cases c : ruleD ns x = true
    · rw [if_pos c] at h1 ⊢
      by_cases c2 : (past.any fun z => PyData.eqv z x) = true
      · rw [if_pos c2] at h1
        cases h1
      · rw [if_neg c2] at h1 ⊢
        exact fr_snoc hr h1 (by rw [List.append_assoc]; exact h2)
    · rw [if_neg c] at h1
      cases h1
theorem put_nd {acc : List (Str × Int)} {e : Str × Int} (h : e.1 ∉ acc.map (·.1)) : putK (acc.map kvOf) (Sum.inr e.1) (.int e.2) = (acc ++ [e]).map kvOf := by
  unfold putK
  rw [if_neg, List.map_append]
  · rfl
  · rw [List.any_eq_true]
    rintro ⟨kv, hk, ek⟩
    obtain ⟨x, hx, rfl⟩ := List.mem_map.mp hk
    exact h (List.mem_map.mpr ⟨x, hx, Sum.inr.inj (of_decide_eq_true ek)⟩)
theorem merge_nd : ∀ (es acc : List (Str × Int)), ((acc ++ es).map (·.1)).Nodup → mergeK (acc.map kvOf) (es.map kvOf) = (acc ++ es).map kvOf
  | [], acc, _ => by
    rw [List.append_nil]
    rfl
  | e :: es, acc, h => by
    have h' : ((acc ++ [e] ++ es).map (·.1)).Nodup := by rw [List.append_assoc]; exact h
    have q := merge_nd es (acc ++ [e]) h'
    have hn : e.1 ∉ acc.map (·.1) := by
      intro hm
      rw [List.map_append, List.nodup_append] at h
      exact h.2.2 _ hm e.1 (by simp) rfl
    rw [List.append_assoc] at q
    rw [← put_nd hn] at q
    exact q
structure HouseG (ds rs : List PyData) : Prop where
  d1 : 1 ≤ ds.length
  d2 : ds.length ≤ 12
  r2 : rs.length ≤ 40
  dials : ∀ d ∈ ds, DialG d
  rules : ∀ r ∈ rs, RuleG (ds.map nameOf) r
  nd : (ds.map nameOf).Nodup
  fd : fDial 0 none ds = none
  fr : fRule (ds.map nameOf) 0 [] rs = none
theorem HouseG.fault {ds rs : List PyData} (h : HouseG ds rs) : faultD (.tuple [.tuple ds, .tuple rs]) = .none := by
  have e1 : formD (.tuple [.tuple ds, .tuple rs]) = true := by
    show ((decide ((1 : Int) ≤ (ds.length : Int)) && decide ((ds.length : Int) ≤ 12)) && (decide ((0 : Int) ≤ (rs.length : Int)) && decide ((rs.length : Int) ≤ 40))) = true
    have := h.d1
    have := h.d2
    have := h.r2
    rw [decide_eq_true (by omega), decide_eq_true (by omega), decide_eq_true (by omega), decide_eq_true (by omega)]
    rfl
  unfold faultD
  rw [if_pos e1]
  show (match fDial 0 none ds with
    | some k => PyData.tuple [.str "dial", .int k]
    | none => match fRule (ds.map nameOf) 0 [] rs with
      | some k => .tuple [.str "rule", .int k]
      | none => .none) = _
  rw [h.fd, h.fr]
theorem put_kv (acc : List (Str × Int)) (e : Str × Int) (Pr : Str × Int → Prop) (hm : ∀ (z : Str) (i : Int), Pr (z, i) → Pr e → Pr (z, e.2)) (ha : ∀ x ∈ acc, Pr x) (he : Pr e) : ∃ es : List (Str × Int), putK (acc.map kvOf) (Sum.inr e.1) (.int e.2) = es.map kvOf ∧ es.length ≤ acc.length + 1 ∧ 1 ≤ es.length ∧ ∀ x ∈ es, Pr x := by
  unfold putK
  by_cases c : ((acc.map kvOf).any fun kv => decide (kv.1 = Sum.inr e.1)) = true
  · rw [if_pos c]
    refine ⟨acc.map fun x => if x.1 = e.1 then (x.1, e.2) else x, ?_, by rw [List.length_map]; omega, ?_, fun x hx => ?_⟩
    · rw [List.map_map, List.map_map]
      apply List.map_congr_left
      intro x _
      show (if (kvOf x).1 = Sum.inr e.1 then ((kvOf x).1, V.int e.2) else kvOf x) = kvOf (if x.1 = e.1 then (x.1, e.2) else x)
      by_cases h : x.1 = e.1
      · rw [if_pos h, if_pos (by rw [← h]; rfl)]
        rfl
      · rw [if_neg h, if_neg (show ¬ (kvOf x).1 = Sum.inr e.1 from fun z => h (Sum.inr.inj z))]
    · rw [List.length_map]
      cases acc with
      | nil => simp at c
      | cons _ _ => simp
    · obtain ⟨y, hy, rfl⟩ := List.mem_map.mp hx
      by_cases h : y.1 = e.1
      · simp only [if_pos h]
        exact hm y.1 y.2 (ha y hy) he
      · simp only [if_neg h]
        exact ha y hy
  · rw [if_neg c]
    refine ⟨acc ++ [e], by rw [List.map_append]; rfl, by simp, by simp, fun x hx => ?_⟩
    rcases List.mem_append.mp hx with hx | hx
    · exact ha x hx
    · rw [List.mem_singleton.mp hx]
      exact he
theorem merge_kv (Pr : Str × Int → Prop) (hm : ∀ z i y j, Pr (z, i) → Pr (y, j) → Pr (z, j)) : ∀ (es acc : List (Str × Int)), (∀ x ∈ acc, Pr x) → (∀ x ∈ es, Pr x) → ∃ es' : List (Str × Int), mergeK (acc.map kvOf) (es.map kvOf) = es'.map kvOf ∧ es'.length ≤ acc.length + es.length ∧ (1 ≤ acc.length + es.length → 1 ≤ es'.length) ∧ ∀ x ∈ es', Pr x
  | [], acc, ha, _ => ⟨acc, rfl, by simp, fun h => by simpa using h, ha⟩
  | e :: es, acc, ha, he => by
    obtain ⟨a2, e1, e2, e3, e4⟩ := put_kv acc e Pr (fun z i h1 h2 => hm z i e.1 e.2 h1 h2) ha (he e List.mem_cons_self)
    obtain ⟨a3, f1, f2, f3, f4⟩ := merge_kv Pr hm es a2 e4 fun x hx => he x (List.mem_cons_of_mem _ hx)
    refine ⟨a3, ?_, by rw [List.length_cons]; omega, fun _ => f3 (by omega), f4⟩
    rw [← f1, ← e1]
    rfl
theorem Al.cons {p D : Addr} {X : List Addr} {H : Hp} {o : HO} (a : Al p X H) (h : H D = some o) : Al p (D :: X) H := ⟨List.mem_cons_of_mem _ a.mem, fun b hb => by
  rcases List.mem_cons.mp hb with e | hb
  · rw [e]; exact ⟨o, h⟩
  · exact a.alc b hb⟩
theorem pairedMap {α β γ : Type} {F : α → β → Prop} {G : α → γ → Prop} {f : β → γ} : ∀ {l₁ : List α} {l₂ : List β}, Paired F l₁ l₂ → (∀ a b, F a b → G a (f b)) → Paired G l₁ (l₂.map f)
  | _, _, .nil, _ => .nil
  | _, _, .cons a t, h => .cons (h _ _ a) (pairedMap t h)
theorem atStr {ss : List Str} {i : Nat} {z : Str} (h : ss[i]? = some z) : atI (ss.map V.str) ((i : Nat) : Int) = some (.str z) := atI_nat (by rw [List.getElem?_map, h]; rfl)
theorem atInt {is : List Int} {i : Nat} {z : Int} (h : is[i]? = some z) : atI (is.map V.int) ((i : Nat) : Int) = some (.int z) := atI_nat (by rw [List.getElem?_map, h]; rfl)
theorem zip_maps : ∀ (es : List (Str × Int)), (es.map (·.1)).zip (es.map (·.2)) = es
  | [] => rfl
  | e :: es => by rw [List.map_cons, List.map_cons, List.zip_cons_cons, zip_maps es]
theorem zip_snoc {ds : List PyData} {is : List Int} {i : Nat} {d : PyData} {v : Int} {F : PyData × Int → Prop} (hl : is.length = i) (hd : ds[i]? = some d) (h : ∀ p ∈ ds.zip is, F p) (h2 : F (d, v)) : ∀ p ∈ ds.zip (is ++ [v]), F p := by
  induction is generalizing ds i with
  | nil =>
    subst hl
    cases ds with
    | nil => simp at hd
    | cons d0 ds =>
      simp at hd
      subst hd
      intro p hp
      simp at hp
      rw [hp]
      exact h2
  | cons j is ih =>
    subst hl
    cases ds with
    | nil => simp at hd
    | cons d0 ds =>
      intro p hp
      rw [List.cons_append, List.zip_cons_cons] at hp
      rcases List.mem_cons.mp hp with e | hp
      · exact h p (by rw [e, List.zip_cons_cons]; exact List.mem_cons_self)
      · exact ih rfl (by simpa using hd) (fun q hq => h q (by rw [List.zip_cons_cons]; exact List.mem_cons_of_mem _ hq)) p hp
/-- a number of a dial's span -/
def inSpan : PyData → Int → Prop
  | .tuple [_, .int lo, .int hi, _, _, _], i => lo ≤ i ∧ i ≤ hi
  | _, _ => False
def spHouseL : Sp := fun vs H Q _ => ∃ (p c : Addr) (X : List Addr) (n wd rl : Int) (m : Nat), vs = [.ref p, .int (m : Nat), .int wd, .int rl] ∧ 0 ≤ wd ∧ wd ≤ 100 ∧ PenC H p c n ∧ Al p X H ∧ n ≤ 100000000 ∧ 1 ≤ m ∧ m ≤ 12 ∧ 0 ≤ rl ∧ rl ≤ 40 ∧
  ∀ (t h y : Addr) (ds rs : List PyData) (is : List Int) (H' : Hp), PenC H' p c (n + 5000) → Sb p H H' → H' t = some (.tup [.ref h, .ref y]) → t ≠ p → Tr (zn X H') (.ref h) (.tuple [.tuple ds, .tuple rs]) → H' y = some (.tup (is.map V.int)) → y ∉ X → is.length = ds.length → (∀ j ∈ is, -farS ≤ j ∧ j ≤ farS) → HouseG ds rs → (∀ p ∈ ds.zip is, inSpan p.1 p.2) → (∀ r ∈ rs, ruleH (lookE ((ds.map nameOf).zip is)) r = true) → Q (.ref t) H'
abbrev nHouse : List Str := ["_law_pen_here", "_law_many", "_law_wide", "_law_rules", "_law_names_here", "_law_lot", "_law_name", "_law_dials", "_law_dial_here", "_law_numbers", "_law_at", "_law_k", "_law_rule"]
section
variable {P : Program} {w : World} {K : PySem.W.Frag} {mg : Str → Option Value} {base : Heap}
end
end Pk
namespace Pk
open PySem L2
/-- what _law_odd picks from -/
def odds : List PyData :=
  [.none, .bool true, .bool false, .int 0, .int 1, .int (-1), .int (10 ^ 18), .int (10 ^ 20), .int (-10 ^ 59), .str "", .str "0", .str "a", .str "least", .tuple [], .tuple [.int 0], .list [], .list [.int 0], .dict []] ++
  [.tuple [.none], .tuple [.str "a", .int 0], .tuple [.str "a", .str "least", .int 0], .tuple [.tuple [.str "a", .str "least", .int 0]], .list [.tuple [.str "a", .str "least", .int 0]], .dict [(.str "a", .int 0)], .tuple [.tuple []]] ++
  [.tuple [.tuple [], .tuple []], .tuple [.str "one", .tuple [.str "a", .str "least", .int 0], .tuple [.str "a", .str "most", .int 0]], .tuple [.str "off", .str "a", .str "b", .int 0]]
theorem odds_ok : (odds.all fun d => lv 0 d && decide (d.bulk ≤ 30) && decide (d.depth ≤ 3)) = true := by decide +kernel
theorem odd_lv {d : PyData} (h : d ∈ odds) : lv 0 d = true ∧ d.bulk ≤ 30 ∧ d.depth ≤ 3 := by
  have q := List.all_eq_true.mp odds_ok d h
  simp only [Bool.and_eq_true, decide_eq_true_eq] at q
  exact ⟨q.1.1, q.1.2, q.2⟩
theorem newP_zn {p : Addr} {X : List Addr} {H H' : Hp} (a : Al p X H) : Same (newP H H') (zn X H') := fun b o e => by
  obtain ⟨h1, h2⟩ := newP_some e
  rw [zn_out (a.out h1)]
  exact h2
def spOddL : Sp := fun vs H Q _ => ∃ (p c : Addr) (X : List Addr) (n : Int), vs = [.ref p] ∧ PenC H p c n ∧ Al p X H ∧ n ≤ 900000000 ∧
  ∀ (x : V) (d : PyData) (H' : Hp), d ∈ odds → Tr (zn X H') x d → PenC H' p c (n + 1) → Sb p H H' → Q x H'
theorem call_isTL {X : Cx} : CallR X (.builtin "isinstance") (fun xs H Q => ∃ (x : V) (tp : Addr) (d : PyData), xs = [x, .ref tp] ∧ H tp = some (.tup [.ty "tuple", .ty "list"]) ∧ Tr H x d ∧ Q (.bl (isTup d || isLst d)) H) := by
  intro pz s σ H xs us Q I r h
  obtain ⟨x, tp, d, rfl, ht, t, q⟩ := h
  refine call_isiT pz s σ H _ us Q I r ⟨x, tp, _, _, [.type "tuple", .type "list"], _, rfl, ht, .cons (.ty _) (.cons (.ty _) .nil), t.ty, ?_, q⟩
  have h2 : PySem.W.kitAny X.K (.type (tyD d)) [.type "list"] = some (isLst d) := kitAny_cons (b := isLst d) (r := isLst d) (kit_ty (kL d)) (fun e => by rw [e]; exact kitAny_nil) (fun e => e)
  cases c : isTup d with
  | true => exact kitAny_cons (b := true) (r := true) (by rw [← c]; exact kit_ty (kT d)) (fun e => by cases e) (fun _ => rfl)
  | false => exact kitAny_cons (b := false) (r := isLst d) (by rw [← c]; exact kit_ty (kT d)) (fun _ => h2) (fun e => by cases e)
/-! ### texts -/
theorem ofS_le (s : String) : ∀ c ∈ (Str.ofString s).cps.toList, c ≤ 1114112 := fun c hc => by
  rw [PyProof.Rows.signs_ofString] at hc
  obtain ⟨ch, _, rfl⟩ := List.mem_map.mp hc
  have h := ch.valid
  have h2 : ch.val.toNat < 1114112 := by
    rcases h with h | ⟨_, h⟩
    · omega
    · exact h
  exact Nat.le_of_lt h2
theorem shifted_le {M : Nat} : ∀ {one : List (Nat × Nat × Nat)} {c v : Nat}, (one.all fun e => decide (e.2.2 ≤ M)) = true → Unicode.shifted one c = some v → v ≤ M + c
  | [], c, v, _, h => by cases h
  | (a, b, t) :: rest, c, v, hm, h => by
    rw [List.all_cons, Bool.and_eq_true, decide_eq_true_eq] at hm
    unfold Unicode.shifted at h
    split at h
    · cases h
    · split at h
      · cases h
        have h3 : t ≤ M := hm.1
        omega
      · exact shifted_le hm.2 h
theorem lookup_all {M : Nat} : ∀ {sv : List (Nat × List Nat)} {c : Nat} {cs : List Nat}, (sv.all fun e => e.2.all fun x => decide (x ≤ M)) = true → sv.lookup c = some cs → ∀ x ∈ cs, x ≤ M
  | [], c, cs, _, h => by cases h
  | (a, l) :: rest, c, cs, hm, h => by
    rw [List.all_cons, Bool.and_eq_true] at hm
    rw [List.lookup_cons] at h
    split at h
    · cases h
      intro x hx
      have := List.all_eq_true.mp hm.1 x hx
      exact of_decide_eq_true this
    · exact lookup_all hm.2 h
theorem tabs1 : (UnicodeData.oneUpper.all fun e => decide (e.2.2 ≤ 1200000)) = true := by decide +kernel
theorem tabs2 : (UnicodeData.severalUpper.all fun e => e.2.all fun x => decide (x ≤ 1200000)) = true := by decide +kernel
theorem upperOf_le {c x : Nat} (h : x ∈ Unicode.upperOf c) : x ≤ 1200000 + c := by
  unfold Unicode.upperOf Unicode.image at h
  split at h
  · rename_i cs e
    have := lookup_all tabs2 e x h
    omega
  · cases e : Unicode.shifted UnicodeData.oneUpper c with
    | none =>
      rw [e] at h
      have : x = c := by simpa using h
      omega
    | some v =>
      rw [e] at h
      have : x = v := by simpa using h
      rw [this]
      exact shifted_le tabs1 e
theorem upper_mem {z : Str} {x : Nat} (h : x ∈ (Txt.upper z).cps.toList) : ∃ c ∈ z.cps.toList, x ≤ 1200000 + c := by
  unfold Txt.upper at h
  have h : x ∈ ((z.cps.mapIdx fun _ c => (Unicode.upperOf c).toArray).flatten).toList := h
  rw [Array.mem_toList_iff, Array.mem_flatten] at h
  obtain ⟨as, h1, h2⟩ := h
  rw [Array.mem_mapIdx] at h1
  obtain ⟨i, hi, rfl⟩ := h1
  exact ⟨z.cps[i], by simp, upperOf_le (by simpa using h2)⟩
section
variable {P : Program} {w : World} {K : PySem.W.Frag} {mg : Str → Option Value} {base : Heap}
end
end Pk
namespace Pk
open PySem L2
theorem lv_le {j k : Nat} (h : j ≤ k) {d : PyData} (hl : lv j d = true) : lv k d = true := by
  induction h with
  | refl => exact hl
  | step _ ih => exact lv_mono ih
theorem TrAll.drop {H : Hp} : ∀ {xs : List V} {ds : List PyData} (n : Nat), TrAll H xs ds → TrAll H (xs.drop n) (ds.drop n)
  | _, _, 0, h => h
  | _, _, _ + 1, .nil => .nil
  | _, _, n + 1, .cons _ t => TrAll.drop n t
theorem TrAll.rev {H : Hp} : ∀ {xs : List V} {ds : List PyData}, TrAll H xs ds → TrAll H xs.reverse ds.reverse
  | _, _, .nil => .nil
  | _, _, .cons h t => by
    rw [List.reverse_cons, List.reverse_cons]
    exact (TrAll.rev t).snoc h
theorem TrAll.set {H : Hp} {y : V} {e : PyData} (hy : Tr H y e) : ∀ {xs : List V} {ds : List PyData} (n : Nat), TrAll H xs ds → TrAll H (xs.set n y) (ds.set n e)
  | _, _, _, .nil => .nil
  | _, _, 0, .cons _ t => .cons hy t
  | _, _, n + 1, .cons h t => .cons h (TrAll.set hy n t)
theorem TrAll.erase {H : Hp} : ∀ {xs : List V} {ds : List PyData} (n : Nat), TrAll H xs ds → TrAll H (xs.eraseIdx n) (ds.eraseIdx n)
  | _, _, _, .nil => .nil
  | _, _, 0, .cons _ t => t
  | _, _, n + 1, .cons h t => .cons h (TrAll.erase n t)
def cutD (ds : List PyData) (lo hi : Option Int) : List PyData := (ds.drop (HT.sIx ds.length 0 lo)).take (HT.sIx ds.length ds.length hi - HT.sIx ds.length 0 lo)
theorem TrAll.cut {H : Hp} {xs : List V} {ds : List PyData} (h : TrAll H xs ds) (lo hi : Option Int) : TrAll H (cutV xs lo hi) (cutD ds lo hi) := by
  unfold cutV cutD
  rw [h.length]
  exact (h.drop _).take _
theorem cutD_mem {ds : List PyData} {lo hi : Option Int} {d : PyData} (h : d ∈ cutD ds lo hi) : d ∈ ds := List.mem_of_mem_drop (List.mem_of_mem_take h)
theorem bulk_take (ds : List PyData) (n : Nat) : PyData.bulkAll (ds.take n) + PyData.bulkAll (ds.drop n) = PyData.bulkAll ds := by rw [← bulk_app, List.take_append_drop]
theorem bulk_cut (ds : List PyData) (lo hi : Option Int) : PyData.bulkAll (cutD ds lo hi) ≤ PyData.bulkAll ds := by
  unfold cutD
  have h1 := bulk_take ds (HT.sIx ds.length 0 lo)
  have h2 := bulk_take (ds.drop (HT.sIx ds.length 0 lo)) (HT.sIx ds.length ds.length hi - HT.sIx ds.length 0 lo)
  omega
theorem bulk_rev : ∀ ds : List PyData, PyData.bulkAll ds.reverse = PyData.bulkAll ds
  | [] => rfl
  | d :: ds => by
    rw [List.reverse_cons, bulk_app, bulk_rev ds, PyData.bulkAll, PyData.bulkAll, PyData.bulkAll]
    omega
theorem bulk_set {d e : PyData} : ∀ {ds : List PyData} {i : Nat}, ds[i]? = some d → PyData.bulkAll (ds.set i e) + d.bulk = PyData.bulkAll ds + e.bulk
  | [], i, h => by simp at h
  | x :: xs, 0, h => by
    cases (show some x = some d from h)
    rw [List.set_cons_zero, PyData.bulkAll, PyData.bulkAll]
    omega
  | x :: xs, i + 1, h => by
    have q := bulk_set (e := e) (ds := xs) (i := i) h
    rw [List.set_cons_succ, PyData.bulkAll, PyData.bulkAll]
    omega
theorem bulk_erase : ∀ (ds : List PyData) (i : Nat), PyData.bulkAll (ds.eraseIdx i) ≤ PyData.bulkAll ds
  | [], i => by simp
  | x :: xs, 0 => by
    rw [List.eraseIdx_cons_zero, PyData.bulkAll]
    omega
  | x :: xs, i + 1 => by
    have := bulk_erase xs i
    rw [List.eraseIdx_cons_succ, PyData.bulkAll, PyData.bulkAll]
    omega
/-- a tuple (tp) or a list -/
def obj (tp : Bool) (xs : List V) : HO := if tp = true then .tup xs else .lst xs
def mkD (tp : Bool) (ds : List PyData) : PyData := if tp = true then .tuple ds else .list ds
theorem seq_of {H : Hp} {x : V} {d : PyData} (t : Tr H x d) (h : (isTup d || isLst d) = true) : ∃ a xs ds tp, x = .ref a ∧ H a = some (obj tp xs) ∧ TrAll H xs ds ∧ d = mkD tp ds := by
  cases t with
  | @lst a xs ds h' al => exact ⟨a, xs, ds, false, rfl, h', al, rfl⟩
  | @tup a xs ds h' al => exact ⟨a, xs, ds, true, rfl, h', al, rfl⟩
  | _ => cases h
theorem mk_bulk (tp : Bool) (ds : List PyData) : (mkD tp ds).bulk = PyData.bulkAll ds := by cases tp <;> rfl
theorem mk_lv (k : Nat) (tp : Bool) (ds : List PyData) : lv k (mkD tp ds) = lvs k ds := by cases tp <;> rfl
theorem mk_depth (tp : Bool) (ds : List PyData) : (mkD tp ds).depth = (PyData.tuple ds).depth := by cases tp <;> simp [mkD, PyData.depth]
theorem depth_tup (ds : List PyData) : (PyData.tuple ds).depth = PyData.depthAll ds + 1 := by simp [PyData.depth, Nat.add_comm]
theorem mk_isT (tp : Bool) (ds : List PyData) : isTup (mkD tp ds) = tp := by cases tp <;> rfl
theorem mk_isI (tp : Bool) (ds : List PyData) : isI (mkD tp ds) = false := by cases tp <;> rfl
theorem mk_isS (tp : Bool) (ds : List PyData) : isStr (mkD tp ds) = false := by cases tp <;> rfl
theorem sq_obj {K : PySem.W.Frag} {H : Hp} {a : Addr} {tp : Bool} {xs : List V} (h : H a = some (obj tp xs)) : SqL K H a xs ∨ SqT K H a xs := by
  cases tp with
  | true => exact .inr (SqT.of h)
  | false => exact .inl (SqL.of h)
theorem tr_obj {H : Hp} {a : Addr} {tp : Bool} {xs : List V} {ds : List PyData} (h : H a = some (obj tp xs)) (al : TrAll H xs ds) : Tr H (.ref a) (mkD tp ds) := by
  cases tp with
  | true => exact .tup h al
  | false => exact .lst h al
theorem ix_obj {K : PySem.W.Frag} {H : Hp} {a : Addr} {tp : Bool} {xs : List V} {i : Int} {y : V} {Q : VK} (h : H a = some (obj tp xs)) (hi : atI xs i = some y) (q : Q y H) : rIx K (.ref a) (.int i) H Q := by
  cases tp with
  | true => exact .inr (.inl ⟨a, xs, i, y, rfl, rfl, SqT.of h, hi, q⟩)
  | false => exact .inl ⟨a, xs, i, y, rfl, rfl, SqL.of h, hi, q⟩
def spBent (m : Nat) : Sp := fun vs H Q _ => ∃ (p c : Addr) (X : List Addr) (n : Int) (k : Nat) (x : V) (d : PyData), vs = [.ref p, x] ∧ PenC H p c n ∧ Al p X H ∧ n + 4 * m ≤ 500000000 ∧ Tr (zn X H) x d ∧ lv k d = true ∧ k ≤ 5 ∧ d.bulk ≤ 30000 ∧ d.depth < m ∧ m ≤ 100 ∧
  ∀ (y : V) (d' : PyData) (H' : Hp), PenC H' p c (n + 4 * m) → Sb p H H' → Tr (zn X H') y d' → lv (k + 1) d' = true → d'.bulk ≤ 4 * d.bulk + 100 → d'.depth ≤ d.depth + 4 → Q y H'
abbrev nBent : List Str := ["_law_pen_here", "_law_thing", "_law_at", "_law_way", "_law_rows", "_law_pair", "_law_some"]
section
variable {P : Program} {w : World} {K : PySem.W.Frag} {mg : Str → Option Value} {base : Heap}
theorem bent_none {f : Addr} {fd : FuncData} {j : Nat} : FnOk P w K mg base CX0 j f fd ["_law_pen_here", "_law_thing"] (spBent 0) := by
  have no : ∀ vs H Q E, ¬ spBent 0 vs H Q E := fun vs H Q E h => by
    obtain ⟨p, c, X, n, k, x, d, _, _, _, _, _, _, _, _, h0, _⟩ := h
    omega
  exact ⟨fun vs H Q E h => absurd h (no vs H Q E), fun A outer s H args us vs Q E _ _ _ _ h => absurd h (no vs H Q E)⟩
end
end Pk
/-! Quiet runs: what a def does that is called within a generator expression. -/
namespace Pk
open PySem PySem.Spec PyProof.Rows L2
/-- the surroundings of a quiet run: env's names are m -/
structure Qe (K : PySem.W.Frag) (mg : Str → Option Value) (env : Env) (m : Str → Option Value) (s : Shared) : Prop where
  kind : env.scope.kind = .function
  glob : env.globals = mainGlobals
  blt : env.builtins = builtinsNs
  ns : s.heap.Ns env.locals m
  kin : K.In s.heap
  gns : s.heap.Ns mainGlobals mg
  bns : ∃ mb, s.heap.Ns builtinsNs mb ∧ ∀ x : Str, x ≠ "__name__" → mb x = bootBuiltins x
  noL : s.heap.NoLimit
theorem Qe.ext {K : PySem.W.Frag} {mg : Str → Option Value} {env : Env} {m : Str → Option Value} {s s' : Shared} (q : Qe K mg env m s) (k : ∀ b o, s.heap.get? b = some o → s'.heap.get? b = some o) : Qe K mg env m s' :=
  ⟨q.kind, q.glob, q.blt, q.ns.keeps k, q.kin.keeps k, q.gns.keeps k, let ⟨mb, h1, h2⟩ := q.bns; ⟨mb, h1.keeps k, h2⟩, q.noL.keeps k⟩
theorem Qe.tok {K : PySem.W.Frag} {mg : Str → Option Value} {env : Env} {m : Str → Option Value} {s : Shared} (q : Qe K mg env m s) (t : Nat) : Qe K mg env m { s with toks := t } := q.ext fun _ _ e => e
section
variable {P : Program} {w : World} {K : PySem.W.Frag} {mg : Str → Option Value} {A : Around} {E : Value → Shared → Prop} {env : Env} {m : Str → Option Value} {s : Shared} {Q : Value → Shared → Prop}
theorem q_loc {x : Str} {v : Value} {p : Pos} (q : Qe K mg env m s) (hl : env.scope.names.lookup x = some .local) (hm : m x = some v) (h : Q v s) (hd : (x == ("__debug__" : Str)) = false := by decide) : wpAny (model P w) A (eval (.Name x p) env) Q E s :=
  wpAny_Name (wpAny_loadName_local q.kind hl q.ns hm h) hd
theorem q_blt {x : Str} {u : Value} {p : Pos} (q : Qe K mg env m s) (hg : env.scope.names.lookup x = some .globalImplicit) (hm : mg x = none) (hv : bootBuiltins x = some u) (h : Q u s)
    (hn : x ≠ "__name__" := by decide) (hd : (x == ("__debug__" : Str)) = false := by decide) : wpAny (model P w) A (eval (.Name x p) env) Q E s := by
  obtain ⟨mb, h1, h2⟩ := q.bns
  exact Calls.Name_function_global q.kind hg (Calls.loadGlobal_builtin (by rw [q.glob]; exact q.gns) hm (by rw [q.blt]; exact h1) ((h2 x hn).trans hv) h) hd
theorem q_glob {x : Str} {u : Value} {p : Pos} (q : Qe K mg env m s) (hg : env.scope.names.lookup x = some .globalImplicit) (hm : mg x = some u) (h : Q u s)
    (hd : (x == ("__debug__" : Str)) = false := by decide) : wpAny (model P w) A (eval (.Name x p) env) Q E s :=
  Calls.Name_function_global q.kind hg (Calls.loadGlobal_global (by rw [q.glob]; exact q.gns) hm h) hd
theorem q_isB {e : Expr} {Qb : Bool → Shared → Prop} (h : wpAny (model P w) A (eval e env) (fun v s1 => ∃ b, v = .bool b ∧ Qb b s1) E s) (he : ∀ whole, isTrue e env whole = (do let v ← whole; standAt e.pos; holding [v] (truthy v)) := by intro _; rfl) :
    wpAny (model P w) A (isTrue e env (eval e env)) Qb E s :=
  isTrue_plain (thn h fun v s1 ⟨b, e1, q⟩ => by
    subst e1
    exact wpAny_truthy_bool q) (he _)
/-- isinstance(x, T), x a local -/
theorem q_isi {x T : Str} {p1 p2 p3 pos : Pos} {u : Value} {Ty : String} {t : Value} {b : Bool} {Pz : Heap → Prop} (q : Qe K mg env m s) (hl : env.scope.names.lookup x = some .local) (hm : m x = some u) (hi : env.scope.names.lookup ("isinstance" : Str) = some .globalImplicit) (mi : mg "isinstance" = none)
    (hT : env.scope.names.lookup T = some .globalImplicit) (mT : mg T = none) (bT : bootBuiltins T = some (.type Ty)) (Z : PySem.W.KitX K u t Pz) (pz : Pz s.heap) (ek : PySem.W.kitOne K t (.type Ty) = some b) (hu : u ≠ .builtin "__main__.__loader__#opaque")
    (h : ∀ tk, Q (.bool b) { s with toks := tk }) (nT : T ≠ "__name__" := by decide) (dT : (T == ("__debug__" : Str)) = false := by decide) (dx : (x == ("__debug__" : Str)) = false := by decide) :
    wpAny (model P w) A (eval (.Call (.Name "isinstance" p1) [.Name x p2, .Name T p3] [] pos) env) Q E s := by
  refine wpAny_Call_Name_kw (q_blt (u := .builtin "isinstance") q hi mi (by decide +kernel) ?_)
  refine PyProof.Rows.callWith_builtin1 ?_ (by rfl) (by rfl)
  refine Calls.spliced_cons (q_loc q hl hm ?_ dx)
  refine Calls.spliced_cons (q_blt q hT mT bT ?_ nT dT)
  refine Calls.spliced_nil ?_
  exact PySem.W.kia_one Z q.kin pz ek hu h
end
/-- is_whole of any data, with nothing but tokens and its own frame left behind -/
theorem quietWhole {P : Program} {w : World} {K : PySem.W.Frag} {mg : Str → Option Value} {A : Around} {s : Shared} {f : Addr} {fd : FuncData} (F : Fun K "is_whole" "is_whole" sWhole f fd) (bG : Binds K fd ["thing", "low", "high"] []) (B : BltH mg)
    (inK : K.In s.heap) (gl : s.heap.Ns mainGlobals mg) (bl : ∃ mb, s.heap.Ns builtinsNs mb ∧ ∀ x : Str, x ≠ "__name__" → mb x = bootBuiltins x) (noL : s.heap.NoLimit) (hd : A.depth < recursionLimit)
    {u : Value} {d : PyData} {lo hi : Int} {t1 t2 : Tok} {Pz : Heap → Prop} (Z : PySem.W.KitX K u (.type (tyD d)) Pz) (pz : ∀ h' : Heap, (∀ b o, s.heap.get? b = some o → h'.get? b = some o) → Pz h') (hu : u ≠ .builtin "__main__.__loader__#opaque") (hi' : ∀ i, d = .int i → ∃ t, u = .int i t) :
    codeAny (model P w) A (.call (.ref f) ⟨[u, .int lo t1, .int hi t2], []⟩) (fun r s' => r = .ok (.ret (.bool (wholeD lo hi d))) ∧ Keeps s s') s := by
  have hbt := bG s [u, .int lo t1, .int hi t2] inK rfl
  obtain ⟨oc, oq, kV, doc, pm, an, cv, ct, osl, rfl, lk, hcd⟩ := F.ex
  refine codeAny_call_function hd (inK _ _ lk) rfl scWhole.co scWhole.gen rfl (PySem.W.codeRec_of inK hcd) (hbt _ _ _ _ (wpAny_newFunctionEnv_cells scWhole.kind (fun y hy => ?_) fun env he sz xx => ?_))
  · rcases scWhole.par y.1 (List.of_mem_zip (show (y.1, y.2) ∈ List.zip (["thing", "low", "high"] : List Str) ([u, .int lo t1, .int hi t2] ++ []) from hy)).1 with z | z
    · exact .inl z
    · exact .inr ⟨z, PySem.W.cellsFrom_some _ _ _ (.inl z)⟩
  · subst he
    have kp := xx.toInCall.keep
    refine ⟨noL.keeps kp, codeAny_func ?_⟩
    obtain ⟨h1, tk1, e1⟩ := xx.toInCall.same
    have q : Qe K mg _ _ sz := ⟨scWhole.kind, rfl, rfl, xx.toInCall.ns, inK.keeps kp, gl.keeps kp, let ⟨mb, z1, z2⟩ := bl; ⟨mb, z1.keeps kp, z2⟩, noL.keeps kp⟩
    have pzz : Pz sz.heap := pz _ kp
    have done : ∀ (t : Nat) (b : Bool), b = wholeD lo hi d → ((.ok (.ret (.bool b)) : Result) = .ok (.ret (.bool (wholeD lo hi d)))) ∧ Keeps s { sz with toks := t } := fun t b e => by
      subst e
      refine ⟨rfl, sz.heap, t, ?_, kp⟩
      rw [e1]
    have isB : PySem.W.kitOne K (.type (tyD d)) (.type "bool") = some (isB d) := kit_ty (kB d)
    have isI' : PySem.W.kitOne K (.type (tyD d)) (.type "int") = some (isI d) := kit_ty (kI d)
    refine wpAny_execs_cons (wpAny_If ?_)
    refine isTrue_or (q_isB (q_isi q rfl (by rfl) rfl B.isinstance rfl B.bool (by decide +kernel) Z pzz isB hu fun tk => ⟨_, rfl, ?_⟩))
    cases hB : Pk.isB d with
    | true =>
      have e : false = wholeD lo hi d := by cases d <;> first | rfl | (simp [Pk.isB] at hB)
      exact wpAny_execs_cons (wpAny_Return_some (Constant_bool (done _ _ e)))
    | false =>
      refine isTrue_or (isTrue_not (q_isB (q_isi (q.tok tk) rfl (by rfl) rfl B.isinstance rfl B.int (by decide +kernel) Z pzz isI' hu fun tk2 => ⟨_, rfl, ?_⟩)))
      cases hI : Pk.isI d with
      | false =>
        have e : false = wholeD lo hi d := by cases d <;> first | rfl | (simp [Pk.isI] at hI)
        exact wpAny_execs_cons (wpAny_Return_some (Constant_bool (done _ _ e)))
      | true =>
        refine isTrue_or_nil ?_
        refine wpAny_execs_nil (wpAny_execs_cons (wpAny_Return_some ?_))
        obtain ⟨i, rfl⟩ : ∃ i, d = .int i := by cases d <;> first | exact ⟨_, rfl⟩ | (simp [Pk.isI, Pk.isB] at hI hB)
        obtain ⟨t, rfl⟩ := hi' i rfl
        refine Compare_chain (q_loc (q.tok tk2) rfl (by rfl) (chain_link (q_loc (q.tok tk2) rfl (by rfl) (le_int (wpAny_truthy_bool ?_)))))
        have ew := wholeD_int lo hi i
        by_cases c : lo ≤ i
        · rw [decide_eq_true c] at ew ⊢
          exact chain_last (q_loc (q.tok _) rfl (by rfl) (le_int (done _ _ ew.symm)))
        · rw [decide_eq_false c] at ew ⊢
          exact done _ _ ew.symm
end Pk
section
set_option maxHeartbeats 2000000
/-! all(test of x, y for x, y in zip(two tuples)), the test a quiet run. -/
namespace Pk
open PySem PySem.Spec PyProof.Rows L2
theorem notNew {q n : Nat} (h : q < n) : q ≠ n + 4 ∧ q ≠ n + 3 ∧ q ≠ n ∧ q ≠ n + 1 := by omega
theorem out4 {q n : Addr} (h : q < n) : q ∉ [n + 4, n + 3, n, n + 1] := fun z => by
  obtain ⟨h1, h2, h3, h4⟩ := notNew h
  simp only [List.mem_cons, List.not_mem_nil, or_false] at z
  rcases z with e | e | e | e
  · exact h1 e
  · exact h2 e
  · exact h3 e
  · exact h4 e
theorem zip_sep {z TI TO i1 i2 a b : Addr} (D : ZipApart z TI TO i1 i2 a b) : ZipSep2 z TI TO i1 i2 [i1, a] [i2, b] := by
  refine ⟨D.TIz, D.TOz, D.TITO, D.TIi1, List.mem_cons_self, fun q => ?_, fun q => ?_, D.TIi2, List.mem_cons_self, fun q => ?_, fun q => ?_, fun q => ?_, fun q => ?_⟩ <;> simp only [List.mem_cons, List.not_mem_nil, or_false] at q <;> rcases q with e | e
  · exact D.i1z e.symm
  · exact D.l1z e.symm
  · exact D.TOi1 e
  · exact D.l1TO e.symm
  · exact D.i2z e.symm
  · exact D.l2z e.symm
  · exact D.TOi2 e
  · exact D.l2TO e.symm
  · exact D.i12 e
  · exact D.l2i1 e.symm
  · exact D.i12 e.symm
  · exact D.l1i2 e.symm
/-- all but the table at P stands as it stood -/
def KeptBut (P : Addr) (h h' : Heap) : Prop := ∀ b o, b ≠ P → h.get? b = some o → h'.get? b = some o
theorem Tr.kitAt {X : Cx} {pz : List (Addr × Obj)} {σ : L2.St} {H : Hp} {s : Shared} {x : V} {d : PyData} {v : Value} {P : Addr} {ps : Array Value} (I : L2.Inv X pz σ H s) (t : Tr H x d) (r : RelV x v) (hP : H P = some (.tbl ps)) :
    ∃ Pz : Heap → Prop, PySem.W.KitX X.K v (.type (tyD d)) Pz ∧ (∀ h', KeptBut P s.heap h' → Pz h') ∧ v ≠ .builtin "__main__.__loader__#opaque" := by
  cases t with
  | non =>
    cases (show v = Value.none from r)
    exact ⟨_, PySem.W.kitx_none, fun _ _ => True.intro, fun z => nomatch z⟩
  | bl b =>
    cases (show v = Value.bool b from r)
    exact ⟨_, PySem.W.kitx_bool, fun _ _ => True.intro, fun z => nomatch z⟩
  | int i =>
    obtain ⟨t, q⟩ := (show ∃ t, v = Value.int i t from r)
    cases q
    exact ⟨_, PySem.W.kitx_int, fun _ _ => True.intro, fun z => nomatch z⟩
  | str y =>
    obtain ⟨t, q⟩ := (show ∃ t, v = Value.str y t from r)
    cases q
    exact ⟨_, PySem.W.kitx_str, fun _ _ => True.intro, fun z => nomatch z⟩
  | @lst a xs ds ha _ =>
    cases (show v = Value.ref a from r)
    obtain ⟨_, _, n, _, h1⟩ := (show ObjOk X.prog X.w H s.heap a (.lst xs) from I.hok a _ ha)
    exact ⟨_, PySem.W.kitx_list, fun h' k => ⟨_, k _ _ (ne_of ha hP (by intro z; cases z)) h1, rfl⟩, fun z => nomatch z⟩
  | @tup a xs ds ha _ =>
    cases (show v = Value.ref a from r)
    obtain ⟨_, _, _, o, h1, h2, _⟩ := (show ObjOk X.prog X.w H s.heap a (.tup xs) from I.hok a _ ha)
    exact ⟨_, PySem.W.kitx_tuple, fun h' k => ⟨o, k _ _ (ne_of ha hP (by intro z; cases z)) h1, h2⟩, fun z => nomatch z⟩
  | @dct a kvs es ha _ _ _ =>
    cases (show v = Value.ref a from r)
    obtain ⟨_, _, vs, _, o, es, ep, h1, h2, _⟩ := (show ObjOk X.prog X.w H s.heap a (.dK kvs) from I.hok a _ ha)
    exact ⟨_, PySem.W.kitx_dict, fun h' k => ⟨o, k _ _ (ne_of ha hP (by intro z; cases z)) h1, h2.1⟩, fun z => nomatch z⟩
/-- the scope of a generator expression over pairs -/
structure GenZ (env : Env) (scope : Scope) (xa xb : Str) : Prop where
  kind : scope.kind = .function
  co : scope.isCoroutine = false
  cell : ∀ y ∈ scope.names, y.2 ≠ .cell
  dot : scope.names.lookup (".0" : Str) = some NameKind.local
  la : scope.names.lookup xa = some .local
  lb : scope.names.lookup xb = some .local
  ab : xa ≠ xb
  free : ∀ y ∈ scope.names, y.2 = .free → ∃ c, env.cells.lookup y.1 = some c
/-- the element: of data with ok the truth f, quietly -/
def EltZ (X : Cx) (P : Addr) (scope : Scope) (xa xb : Str) (elt : Expr) (f : PyData → PyData → Bool) (ok : PyData → PyData → Prop) : Prop :=
  ∀ (pins : List (Addr × Obj)) (σ : L2.St) (H1 : Hp) (s1 : Shared) (ps : Array Value) (dx dy : PyData) (vx vy : V) (ux uy : Value) (cenv : Env) (A' : Around) (E' : Value → Shared → Prop) (u : Shared) (m : Str → Option Value),
    L2.Inv X pins σ H1 s1 → H1 P = some (.tbl ps) → Tr H1 vx dx → Tr H1 vy dy → RelV vx ux → RelV vy uy → ok dx dy → A'.handled = none → A'.depth ≤ X.A.depth + 1 → A'.units ≤ X.A.units + 8 → cenv.scope = scope → Qe X.K X.mg cenv m u → m xa = some ux → m xb = some uy → KeptBut P s1.heap u.heap →
    wpAny (model X.prog X.w) A' (eval elt cenv) (fun y u' => y = .bool (f dx dy) ∧ Keeps u u') E' u
/-- a generator g that hands out n truths, ready to be walked -/
def ReadyN (X : Cx) (pins : List (Addr × Obj)) (σ : L2.St) (H1 : Hp) (P : Addr) (n : Nat) (tr : Nat → Bool) (g : Addr) (u : Shared) : Prop :=
  ∃ (fp wr : List Addr) (G : Array GenState → Array GenState → Prop) (F : Nat → Value → Prop) (St : Nat → Shared → Prop),
    WalksS X.prog X.w X.A.in1 g fp wr G n F St ∧ St 0 u ∧ TruthOf X.prog X.w X.A.in1 F tr ∧ ∀ u', Moved wr G u u' → ∃ H2, GxR.Tabbed P H1 H2 ∧ L2.Inv X pins σ H2 u'
def trZ (f : PyData → PyData → Bool) (l : List (PyData × PyData)) (j : Nat) : Bool := match l[j]? with
  | some p => f p.1 p.2
  | none => false
theorem trZ_some {f : PyData → PyData → Bool} {l : List (PyData × PyData)} {j : Nat} {p : PyData × PyData} (h : l[j]? = some p) : trZ f l j = f p.1 p.2 := by
  unfold trZ
  rw [h]
theorem all_trZ (f : PyData → PyData → Bool) (l : List (PyData × PyData)) : (List.range l.length).all (trZ f l) = l.all fun p => f p.1 p.2 := by
  rw [Bool.eq_iff_iff, List.all_eq_true, List.all_eq_true]
  constructor
  · intro h p hp
    obtain ⟨j, hj, e⟩ := List.getElem_of_mem hp
    have q := h j (List.mem_range.mpr hj)
    rw [trZ_some (List.getElem?_eq_getElem hj), e] at q
    exact q
  · intro h j hj
    have hj' := List.mem_range.mp hj
    rw [trZ_some (List.getElem?_eq_getElem hj')]
    exact h _ (List.getElem_mem hj')
theorem vals_back : ∀ {xs : List V} {us : List Value} {i : Nat} {u : Value}, Vals xs us → us[i]? = some u → ∃ x, xs[i]? = some x ∧ RelV x u
  | _, _, _, _, .nil, h => by simp at h
  | _, _, 0, _, .cons r _, h => by
    simp only [List.getElem?_cons_zero, Option.some.injEq] at h
    subst h
    exact ⟨_, rfl, r⟩
  | _, _, i + 1, _, .cons _ t, h => by
    simp only [List.getElem?_cons_succ] at h ⊢
    exact vals_back t h
section
variable {X : Cx} {pins : List (Addr × Obj)} {σ : L2.St} {H : Hp} {s : Shared}
theorem gen_zip {c P : Addr} {elt e1 e2 : Expr} {xa xb : Str} {pa pb pt pz gpos ipos : Pos} {kt : Nat} {scope : Scope} {ta : TA} {k : Nat} {f : PyData → PyData → Bool} {ok : PyData → PyData → Prop} {Q' : Value → Shared → Prop} {R : List PyData → List PyData → Hp → Prop}
    (hr : Room k X.A) (TB : GxR.TabB X.base X.mg c P) (hcode : X.env.code = .ref c) (S : GenZ X.env scope xa xb) (hg : Gl X "zip") (hm : X.mg "zip" = none) (ha : PA X [e1, e2] ta) (hel : EltZ X P scope xa xb elt f ok)
    (hs : ∀ v, genFold (.Call (.Name "zip" pz) [e1, e2] [] ipos) X.env v = pure v) (hst : starEach [e1, e2] X.env = (false, eval e1 X.env) :: starEach [e2] X.env) (hpl : (backTo ipos (starEach [e2] X.env)).any (·.1) = false) (I : L2.Inv X pins σ H s)
    (h : ta σ H fun vs H1 => ∃ (a b : Addr) (xs ys : List V) (ds es : List PyData), vs = [.ref a, .ref b] ∧ H1 a = some (.tup xs) ∧ H1 b = some (.tup ys) ∧ TrAll H1 xs ds ∧ TrAll H1 ys es ∧ (∀ p ∈ ds.zip es, ok p.1 p.2) ∧ GxR.TabG H1 P ∧ R ds es H1)
    (hQ : ∀ ds es H1 g u, R ds es H1 → ReadyN X pins σ H1 P (ds.zip es).length (trZ f (ds.zip es)) g u → Q' (.ref g) u) :
    wpAny (model X.prog X.w) X.A (eval (.GeneratorExp elt [⟨.Tuple [.Name xa pa, .Name xb pb] kt pt, .Call (.Name "zip" pz) [e1, e2] [] ipos, [], 0⟩] scope gpos) X.env) Q' X.xe s := by
  refine wpAny_GeneratorExp_walksQTD hr.hd S.co (closure_ok S.free) S.cell S.dot S.la S.lb S.ab S.kind (by have := hr.dp; omega) ?_ hs
  refine Call_ (ld_blt I hg hm PyProof.Rows.boot_zip (PyProof.Rows.callWith_type1 (thn (ha.run ipos pins s σ H _ I h) fun us s1 ⟨vs, H1, I1, r1, q1⟩ => ?_) hst hpl))
  obtain ⟨a, b, xs, ys, ds, es, rfl, hA, hB, tA, tB, hok, ⟨ps, hP, ht⟩, q1⟩ := q1
  obtain ⟨u1, u2, rfl, ra, rb⟩ := vals2 r1
  cases ra
  cases rb
  obtain ⟨its, rv, p1, _⟩ := I1.tuple (SqT.of hA)
  obtain ⟨its2, rv2, p2, _⟩ := I1.tuple (SqT.of hB)
  have a9 : a < s1.heap.objs.size := let ⟨_, e, _⟩ := p1; Heap.lt_size e
  have b9 : b < s1.heap.objs.size := let ⟨_, e, _⟩ := p2; Heap.lt_size e
  have hPs : s1.heap.get? P = some { cls := .none, data := .fields ps } := I1.hok P _ hP
  have hP9 : P < s1.heap.objs.size := Heap.lt_size hPs
  refine RZ.call_zipT (show s1.heap.IsTuple a its.toArray from p1) (show s1.heap.IsTuple b its2.toArray from p2) fun hz z1 z2 z3 z4 z5 zsz zk => wpAny_pyIter_zip z1 ?_
  generalize hn : s1.heap.objs.size = n at a9 b9 hP9 z1 z2 z3 z4 z5 zsz
  have sep : ZipSep2 (n + 4) (n + 2) (n + 3) n (n + 1) [n, a] [n + 1, b] := zip_sep (PySem.W.ktu_apart n a b a9 b9)
  have na : a ≠ n := Nat.ne_of_lt a9
  have nb : b ≠ n + 1 := Nat.ne_of_lt (Nat.lt_succ_of_lt b9)
  have Wk : ∀ A' : Around, A'.handled = none → WalksU X.prog X.w A' (n + 4) _ _ _ _ _ _ := fun A' hA' => (WalksT.zipD2 sep (drawsTup (A := A'.in1) hA' n a na its.toArray) (drawsTup (A := A'.in1) hA' (n + 1) b nb its2.toArray)).toU
  have hPz : hz.get? P = some { cls := .none, data := .fields ps } := zk _ _ hPs
  have cd : PySem.W.CodeHd hz c P := TB.code.keeps fun b u e => zk _ _ (I1.bk b u e)
  have limz : hz.NoLimit := I1.nolimit.keeps zk
  have l1 := rv.length
  have l2 := rv2.length
  have l3 := tA.length
  have l4 := tB.length
  have hnn : min its.toArray.size its2.toArray.size = (ds.zip es).length := by simp [List.length_zip]; omega
  have notP : ∀ b o, X.base.get? b = some o → b ≠ P := fun b o e z => by
    have q := (I1.bs b o e).2
    rw [z, hP] at q
    cases q
  have cont : ∀ (code : Value) (h3 : Heap) (tk : Nat) (ps' : Array Value), Heap.ExtBut P hz h3 → hz.objs.size ≤ h3.objs.size → h3.get? P = some { cls := .none, data := .fields ps' } → (∃ more, ps' = ps ++ more) → TriplesOk ps'.toList →
      wpAny (model X.prog X.w) X.A (builtinsFor X.env.globals X.env.builtins) (fun bi s4 =>
        ∃ Ia fp wr n0 Pt St0 Mid pz F, Value.ref (n + 4) = .ref Ia ∧ (∀ A' : Around, A'.handled = none → WalksU X.prog X.w A' Ia fp wr n0 Pt St0 Mid) ∧ (∀ i vals, Pt i vals → ∃ va vb, vals = #[va, vb]) ∧ St0 0 s4.heap ∧ (∀ b ∈ fp, b < s4.heap.objs.size) ∧ s4.heap.NoLimit ∧ cStatics ∉ wr ∧
          (∀ href : Heap, (∀ b o, s4.heap.get? b = some o → href.get? b = some o) →
            QuietGenTD X.prog X.w (genEnv scope (cloFrom X.env.cells scope.names []) s4.heap.objs.size code bi X.env) xa xb [] elt (List.range s4.heap.objs.size) wr Pt pz F href (X.A.depth + 1) (X.A.units + 8)) ∧
          (∀ g h5 tk gs, gs.bare = true → s4.heap.objs.size < g → h5.objs.size = g + 1 → (∀ b o, s4.heap.get? b = some o → h5.get? b = some o) →
            WalksS X.prog X.w X.A.in4 g (g :: s4.heap.objs.size :: List.range s4.heap.objs.size) (s4.heap.objs.size :: wr) (GenOnlyQ s4.gens.size) (passing pz n0 0).length
              (fun j y => ∃ i, (passing pz n0 0)[j]? = some i ∧ F i y) (GenAt X.prog X.w X.A.in4 g s4.gens.size s4.heap.objs.size (List.range s4.heap.objs.size) wr pz n0 F) →
            GenAt X.prog X.w X.A.in4 g s4.gens.size s4.heap.objs.size (List.range s4.heap.objs.size) wr pz n0 F 0 { s4 with gens := s4.gens.push gs, toks := tk, heap := h5 } →
            Q' (.ref g) { s4 with gens := s4.gens.push gs, toks := tk, heap := h5 })) X.xe { s1 with heap := h3, toks := tk } := by
    intro code h3 tk ps' hx hsz hP3 hmore ht3
    obtain ⟨bm, ob, g1, g2, g3, g4, g5, g6, g7, g8⟩ := TB.bm
    have kept3 : KeptBut P s1.heap h3 := fun b u hb e => hx b u hb (zk _ _ e)
    have hcP : cStatics ≠ P := fun e => by
      obtain ⟨_, hns, _⟩ := I1.nolimit
      obtain ⟨o', es', ep, ho, hd, _⟩ := hns
      rw [e, hPs] at ho
      cases ho
      cases hd
    have hcl : cStatics < s1.heap.objs.size := let ⟨_, hns, _⟩ := I1.nolimit; hns.lt
    have up : ∀ {q : Addr} {o : Obj}, n ≤ q → hz.get? q = some o → h3.get? q = some o := fun {q o} hq e => hx q o (fun z => by rw [z] at hq; exact absurd hP9 (Nat.not_lt.mpr hq)) e
    refine wpAny_builtinsFor (m := X.mg) (by rw [I1.ok.glob]; exact ((I1.mod.glob.keeps I1.bk).keeps zk).extBut hx TB.gP) g1 g2 (kept3 _ _ g4 (I1.bk _ _ g5)) g6 g7 g8 ?_
    refine ⟨n + 4, _, _, _, _, _, _, (fun _ => true), (fun i y => ∃ p, (ds.zip es)[i]? = some p ∧ y = .bool (f p.1 p.2)), rfl, Wk, ?_, ?_, ?_, limz.extBut hx hcP, ?_, ?_, ?_⟩
    · rintro i vals ⟨x1, x2, _, _, e⟩
      exact ⟨x1, x2, e⟩
    · refine ⟨up (by omega) z1, up (by omega) z2, ⟨_, _, up (by omega) z3⟩, ⟨?_, ?_⟩, ?_, ?_⟩
      · exact z4.at fun o e => up (Nat.le_refl _) e
      · obtain ⟨o, e, r⟩ := p1
        exact ⟨o, kept3 _ _ (ne_of hA hP (by intro z; cases z)) e, r⟩
      · exact z5.at fun o e => up (by omega) e
      · obtain ⟨o, e, r⟩ := p2
        exact ⟨o, kept3 _ _ (ne_of hB hP (by intro z; cases z)) e, r⟩
    · intro q hq
      have lt9 : ∀ {q : Addr} {o : Obj}, hz.get? q = some o → q < h3.objs.size := fun e => Nat.lt_of_lt_of_le (Heap.lt_size e) hsz
      simp only [List.cons_append, List.nil_append, List.mem_cons, List.not_mem_nil, or_false] at hq
      rcases hq with e | e | e | e | e | e | e
      · rw [e]; exact lt9 z1
      · rw [e]; exact lt9 z2
      · rw [e]; exact lt9 z3
      · rw [e]; obtain ⟨_, y, _⟩ := z4; exact lt9 y
      · rw [e]; obtain ⟨_, y, _⟩ := p1; exact lt9 (zk _ _ y)
      · rw [e]; obtain ⟨_, y, _⟩ := z5; exact lt9 y
      · rw [e]; obtain ⟨_, y, _⟩ := p2; exact lt9 (zk _ _ y)
    · rw [hn] at hcl
      exact out4 hcl
    · intro href hhref
      refine ⟨fun A' E' i va vb u m hA' _ _ _ _ _ _ _ => ?_, fun A' E' i va vb u m hA' hdp hun hPv _ hns hma hmb hkp => ?_⟩
      · simp only [List.forIn_nil]
        exact wpAny_pure ⟨rfl, GxR.keeps_refl _⟩
      · obtain ⟨x1, x2, i1, i2, e⟩ := hPv
        have e' : va = x1 ∧ vb = x2 := by simpa using congrArg Array.toList e
        obtain ⟨rfl, rfl⟩ := e'
        obtain ⟨vx, hvx, rx⟩ := vals_back rv (show its[i]? = some va by simpa using i1)
        obtain ⟨vy, hvy, ry⟩ := vals_back rv2 (show its2[i]? = some vb by simpa using i2)
        obtain ⟨dx, hdx, tx⟩ := tA.get hvx
        obtain ⟨dy, hdy, ty⟩ := tB.get hvy
        have hz2 : (ds.zip es)[i]? = some (dx, dy) := by simp [List.getElem?_zip_eq_some, hdx, hdy]
        have kb : KeptBut P s1.heap u.heap := fun q o hq e => by
          have hlt : q < s1.heap.objs.size := Heap.lt_size e
          rw [hn] at hlt
          refine hkp q (List.mem_range.mpr ?_) (out4 hlt) o (hhref q o (kept3 q o hq e))
          exact Nat.lt_of_lt_of_le (Heap.lt_size (zk _ _ e)) hsz
        have bk : ∀ q o, X.base.get? q = some o → u.heap.get? q = some o := fun q o e => kb q o (notP q o e) (I1.bk q o e)
        have qe : Qe X.K X.mg (genEnv scope (cloFrom X.env.cells scope.names []) h3.objs.size code builtinsNs X.env) m u :=
          ⟨S.kind, I1.ok.glob, rfl, hns, I1.mod.kin.keeps bk, I1.mod.glob.keeps bk, let ⟨mb, y1, y2⟩ := I1.mod.blt; ⟨mb, y1.keeps bk, y2⟩, I1.mod.nolimit.keeps bk⟩
        exact thn (hel pins σ H1 s1 ps dx dy vx vy va vb _ A' E' u m I1 hP tx ty rx ry (hok (dx, dy) (List.mem_of_getElem? hz2)) hA' hdp hun rfl qe hma hmb kb) fun y u' r => ⟨⟨_, hz2, r.1⟩, r.2⟩
    · intro g h5 tk5 gs hgb hag hsz5 hk5 W5 hat
      simp only [GxR.passing_true, List.length_range] at W5
      rw [hnn] at W5 hat
      refine hQ ds es H1 g _ q1 ⟨_, _, _, _, _, W5.in4_1, hat, ?_, fun u' hm => ?_⟩
      · intro j y sj Qj Ej hy hQj
        obtain ⟨i, hij, p, hp, rfl⟩ := hy
        obtain ⟨hj, ej⟩ := List.getElem?_eq_some_iff.mp hij
        rw [List.getElem_range] at ej
        subst ej
        have hQ2 : Qj (trZ f (ds.zip es) j) sj := hQj
        rw [trZ_some hp] at hQ2
        exact wpAny_truthy_bool hQ2
      · obtain ⟨more, em⟩ := hmore
        have nwr : ∀ q o, s1.heap.get? q = some o → q ∉ h3.objs.size :: [n + 4, n + 3, n, n + 1] := fun q o e hb => by
          have hl : q < s1.heap.objs.size := Heap.lt_size e
          rw [hn] at hl
          rcases List.mem_cons.mp hb with z | z
          · have := Heap.lt_size (zk _ _ e)
            rw [z] at this
            exact absurd (Nat.lt_of_lt_of_le this hsz) (Nat.lt_irrefl _)
          · exact out4 hl z
        have J := GxR.inv_tab (more := more) (h' := u'.heap) (g' := u'.gens) (d' := u'.drawn) (t' := u'.toks) I1 hP (fun q o hb e => hm.heap q o (nwr q o e) (hk5 q o (kept3 q o hb e)))
          (by rw [← em]; exact hm.heap P _ (nwr P _ hPs) (hk5 P _ hP3)) (AllBare.movedS (I1.bare.push hgb) hm)
        rw [GxR.sh_eta s1 u' hm.os] at J
        exact ⟨upd H1 P (.tbl (ps ++ more)), ⟨⟨ps ++ more, upd_same, by rw [← em]; exact ht3⟩, fun b hb => upd_ne hb⟩, J⟩
  refine ⟨limz, ?_⟩
  cases hf : codeAmong gpos ps.toList with
  | none =>
    refine wpAny_genexprCodeX hcode (cd.code hPz ht) (cd.tab hPz) hf fun c' h' tk hx hge hlt hco' _ htab' _ => ?_
    obtain ⟨o1, vs, f1, tf, fl, tg, inF, tx, tt, op, _, _, _, _, _, _, _, _, _, htr, _⟩ := hco'
    exact cont _ h' tk _ hx (Nat.le_trans hge (Nat.le_of_lt hlt)) htab'.2 ⟨_, rfl⟩ htr
  | some cv =>
    refine wpAny_genexprCode_hit hcode (cd.code hPz ht) hf ?_
    exact cont cv hz s1.toks ps (Heap.ExtBut.refl _ _) (Nat.le_refl _) hPz ⟨#[], by simp⟩ ht
end
end Pk
end
/-! are_numbers. -/
namespace Pk
open PySem PySem.Spec PyProof.Rows L2
section
variable {X : Cx}
/-- all(test for x, y in zip(e1, e2)) -/
def tAllZ (P : Addr) (f : PyData → PyData → Bool) (ok : PyData → PyData → Prop) (ta : TA) : TE := fun σ H Q => ta σ H fun vs H1 => ∃ (a b : Addr) (xs ys : List V) (ds es : List PyData), vs = [.ref a, .ref b] ∧ H1 a = some (.tup xs) ∧ H1 b = some (.tup ys) ∧ TrAll H1 xs ds ∧ TrAll H1 ys es ∧ (∀ p ∈ ds.zip es, ok p.1 p.2) ∧ GxR.TabG H1 P ∧
  ∀ H2, GxR.Tabbed P H1 H2 → Q (.bl ((ds.zip es).all fun p => f p.1 p.2)) H2
theorem pe_allZ {c P : Addr} {elt e1 e2 : Expr} {xa xb : Str} {pa pb pt pz gpos ipos p pos : Pos} {kt : Nat} {scope : Scope} {ta : TA} {k : Nat} {f : PyData → PyData → Bool} {ok : PyData → PyData → Prop}
    (hr : Room k X.A) (hgA : Gl X "all") (hmA : X.mg "all" = none) (hb : bootBuiltins "all" = some (.builtin "all")) (TB : GxR.TabB X.base X.mg c P) (hcode : X.env.code = .ref c) (S : GenZ X.env scope xa xb) (hg : Gl X "zip") (hm : X.mg "zip" = none) (ha : PA X [e1, e2] ta) (hel : EltZ X P scope xa xb elt f ok)
    (hs : ∀ v, genFold (.Call (.Name "zip" pz) [e1, e2] [] ipos) X.env v = pure v) (hst : starEach [e1, e2] X.env = (false, eval e1 X.env) :: starEach [e2] X.env := by rfl) (hpl : (backTo ipos (starEach [e2] X.env)).any (·.1) = false := by rfl)
    (he : starEach [.GeneratorExp elt [⟨.Tuple [.Name xa pa, .Name xb pb] kt pt, .Call (.Name "zip" pz) [e1, e2] [] ipos, [], 0⟩] scope gpos] X.env = (false, eval (.GeneratorExp elt [⟨.Tuple [.Name xa pa, .Name xb pb] kt pt, .Call (.Name "zip" pz) [e1, e2] [] ipos, [], 0⟩] scope gpos) X.env) :: starEach [] X.env := by rfl) :
    PE X (.Call (.Name "all" p) [.GeneratorExp elt [⟨.Tuple [.Name xa pa, .Name xb pb] kt pt, .Call (.Name "zip" pz) [e1, e2] [] ipos, [], 0⟩] scope gpos] [] pos) (tAllZ P f ok ta) := by
  refine ⟨fun pins s σ H Q I h => wpAny_Call_Name_kw (ld_blt I hgA hmA hb ?_)⟩
  refine PyProof.Rows.callWith_builtin1 ?_ he (by rfl)
  rw [he]
  show wpAny _ _ (spliced ((false, eval (.GeneratorExp elt [⟨.Tuple [.Name xa pa, .Name xb pb] kt pt, .Call (.Name "zip" pz) [e1, e2] [] ipos, [], 0⟩] scope gpos) X.env) :: backTo pos (starEach [] X.env))) _ _ s
  refine Calls.spliced_cons (gen_zip (R := fun ds es H1 => ∀ H2, GxR.Tabbed P H1 H2 → Q (.bl ((ds.zip es).all fun p => f p.1 p.2)) H2) hr TB hcode S hg hm ha hel hs hst hpl I h fun ds es H1 g u hR hG => Calls.spliced_nil ?_)
  obtain ⟨fp, wr, G, F, St, W, h0, htr, hI⟩ := hG
  refine call_all_walkS (W.self 0 _ _ _ h0 ⟨g, fp, wr, G, _, F, St, _, rfl, W, h0, htr, fun u' hmv => ?_⟩)
  obtain ⟨H2, hT, J⟩ := hI u' hmv
  refine ⟨.bl _, H2, J, rfl, ?_⟩
  rw [all_trZ]
  exact hR H2 hT
end
/-- a number of a dial's span -/
def numD : PyData → PyData → Bool
  | .tuple [_, .int lo, .int hi, _, _, _], d => wholeD lo hi d
  | _, _ => false
def spanOk (d _e : PyData) : Prop := ∃ n lo hi w u v, d = .tuple [n, .int lo, .int hi, w, u, v]
/-- numbers of these dials -/
def numsD (ds : List PyData) : PyData → Bool
  | .tuple es => decide (es.length = ds.length) && ((ds.zip es).all fun p => numD p.1 p.2)
  | _ => false
def scNum : Scope := { kind := .function, names := [((".0" : Str), NameKind.local), (("dial" : Str), NameKind.local), (("number" : Str), NameKind.local), (("is_whole" : Str), NameKind.globalImplicit)], isGenerator := true, isCoroutine := false }
theorem gzNum (env : Env) : GenZ env scNum "dial" "number" := by
  refine ⟨rfl, rfl, by decide +kernel, rfl, rfl, rfl, by decide, fun y hy e => ?_⟩
  have h : ∀ y ∈ scNum.names, y.2 ≠ .free := by decide +kernel
  exact absurd e (h y hy)
/-- x[j], x a local that holds a tuple -/
theorem q_ix {P : Program} {w : World} {K : PySem.W.Frag} {mg : Str → Option Value} {A : Around} {E : Value → Shared → Prop} {env : Env} {m : Str → Option Value} {s : Shared} {Q : Value → Shared → Prop} {x : Str} {p1 p2 pos : Pos} {kk : Nat} {a : Addr} {its : List Value} {i : Int} {j : Nat} {v : Value}
    (q : Qe K mg env m s) (hl : env.scope.names.lookup x = some .local) (hm : m x = some (.ref a)) (ht : IsTup s.heap a its.toArray) (hi0 : 0 ≤ i) (hi1 : i < 1000) (ej : j = i.toNat) (hj : its[j]? = some v) (h : Q v { s with toks := s.toks + 1 }) (hd : (x == ("__debug__" : Str)) = false := by decide) :
    wpAny (model P w) A (eval (.Subscript (.Name x p1) (.Constant (.int i) kk p2) pos) env) Q E s := by
  subst ej
  refine Subscript_ (q_loc q hl hm (wpAny_Constant_int ?_) hd)
  have hlt : i.toNat < its.length := (List.getElem?_eq_some_iff.mp hj).1
  refine subscriptTail_builtinR (x := v) (show ({ s with toks := s.toks + 1 } : Shared).TypeIs (.ref a) "tuple" from ht.typeIs) slot_tuple_getitem.lookup (getItem_tuple (s := { s with toks := s.toks + 1 }) (j := i.toNat) (Q := fun r s' => r = v ∧ Q r s') ht (by omega) (by omega) ?_ (by simpa using hj) ⟨rfl, h⟩) (by with_unfolding_all rfl)
  rw [List.size_toArray]
  exact seqIx hi0 (by omega)
theorem elt_num {X : Cx} {Pt f : Addr} {fd : FuncData} {p0 p1 p2 p3 p4 p5 p6 p7 p8 : Pos} {k1 k2 : Nat} (F : Fun X.K "is_whole" "is_whole" sWhole f fd) (bG : Binds X.K fd ["thing", "low", "high"] []) (mG : X.mg "is_whole" = some (.ref f)) (kG : PySem.W.keepIn X.K (.ref f) = true) (B : BltH X.mg) (hroom : X.A.depth + 1 < recursionLimit) :
    EltZ X Pt scNum "dial" "number" (.Call (.Name "is_whole" p0) [.Name "number" p1, .Subscript (.Name "dial" p2) (.Constant (.int 1) k1 p3) p4, .Subscript (.Name "dial" p5) (.Constant (.int 2) k2 p6) p7] [] p8) numD spanOk := by
  intro pins σ H1 s1 ps dx dy vx vy ux uy cenv A' E' u m I hP tx ty rx ry hok hh hdp hun hsc qe ma mb kb
  obtain ⟨n, lo, hi, w, u1, u2, rfl⟩ := hok
  cases tx with
  | @tup a xs _ ha al =>
    match xs, al with
    | [x0, _, _, x3, x4, x5], .cons _ (.cons (.int _) (.cons (.int _) (.cons _ (.cons _ (.cons _ .nil))))) =>
      cases (show ux = Value.ref a from rx)
      obtain ⟨its, rv, pt, _⟩ := I.tuple (SqT.of ha)
      have pt' : IsTup u.heap a its.toArray := by
        obtain ⟨o, e, r⟩ := pt
        exact ⟨o, kb _ _ (ne_of ha hP (by intro z; cases z)) e, r⟩
      obtain ⟨v1, e1, r1⟩ := rv.get (i := 1) rfl
      obtain ⟨v2, e2, r2⟩ := rv.get (i := 2) rfl
      obtain ⟨t1, rfl⟩ := (show ∃ t, v1 = Value.int lo t from r1)
      obtain ⟨t2, rfl⟩ := (show ∃ t, v2 = Value.int hi t from r2)
      have sc1 : cenv.scope.names.lookup ("number" : Str) = some .local := by rw [hsc]; rfl
      have sc2 : cenv.scope.names.lookup ("dial" : Str) = some .local := by rw [hsc]; rfl
      have sc3 : cenv.scope.names.lookup ("is_whole" : Str) = some .globalImplicit := by rw [hsc]; rfl
      obtain ⟨Pz, Z, pz, nl⟩ := ty.kitAt I ry hP
      refine wpAny_Call_Name_kw (q_glob qe sc3 mG (PySem.W.callWith_K (h₀ := u.heap) qe.kin kG (Calls.spliced_cons (q_loc qe sc1 mb (Calls.spliced_cons (q_ix (a := a) (its := its) (j := 1) qe sc2 ma pt' (by decide) (by decide) rfl e1 (Calls.spliced_cons (q_ix (a := a) (its := its) (j := 2) (qe.tok _) sc2 ma pt' (by decide) (by decide) rfl e2 (Calls.spliced_nil ?_))))))) (by rfl) (by rfl)))
      refine ⟨qe.kin, wpAny_call (codeAny_mono (quietWhole F bG B (s := { u with toks := u.toks + 1 + 1 }) qe.kin qe.gns qe.bns qe.noL (by omega) Z (fun h' k => pz h' fun b o hb e => k b o (kb b o hb e)) nl (fun i e => ?_)) fun r s' hr => ?_)⟩
      · subst e
        cases ty with
        | int i => exact ry
      · obtain ⟨rfl, h', tk, e, hk⟩ := hr
        exact ⟨rfl, h', tk, by rw [e], hk⟩
end Pk
/-! are_numbers, check_house. -/
namespace Pk
open PySem L2
def spAreN (Pt : Addr) : Sp := fun vs H Q _ => ∃ (h : Addr) (x : V) (ds rs : List PyData) (d : PyData), vs = [.ref h, x] ∧ Tr H (.ref h) (.tuple [.tuple ds, .tuple rs]) ∧ ds.length ≤ 12 ∧ (∀ e ∈ ds, DialG e) ∧ Tr H x d ∧ GxR.TabG H Pt ∧ ∀ H', Gr Pt H H' → Q (.bl (numsD ds d)) H'
theorem dial_span {d e : PyData} (h : DialG d) : spanOk d e := by
  obtain ⟨nm, way, lo, hi, up, dn, rfl, _⟩ := h
  exact ⟨_, _, _, _, _, _, rfl⟩
theorem nums_not {ds : List PyData} {d : PyData} (h : tupD (ds.length : Int) (ds.length : Int) d = false) : numsD ds d = false := by
  cases d with
  | tuple es =>
    show (decide (es.length = ds.length) && _) = false
    rw [decide_eq_false (fun e => ?_)]
    · rfl
    · rw [tupD, e, decide_eq_true (Int.le_refl _)] at h
      cases h
  | _ => rfl
theorem nums_tup {ds : List PyData} {d : PyData} (h : tupD (ds.length : Int) (ds.length : Int) d = true) : ∃ es, d = .tuple es ∧ es.length = ds.length ∧ numsD ds d = (ds.zip es).all fun p => numD p.1 p.2 := by
  cases d with
  | tuple es =>
    rw [tupD, Bool.and_eq_true, decide_eq_true_eq, decide_eq_true_eq] at h
    have e : es.length = ds.length := by omega
    refine ⟨es, rfl, e, ?_⟩
    show (decide (es.length = ds.length) && _) = _
    rw [decide_eq_true e]
    rfl
  | _ => cases h
section
variable {P : Program} {w : World} {K : PySem.W.Frag} {mg : Str → Option Value} {base : Heap} {Pt : Addr}
end
end Pk
section
set_option maxHeartbeats 2000000
/-! dict(zip(a, b)), a a list, b a tuple; any two iterators that draw. -/
namespace Pk
open PySem
section
variable {prog : Program} {w : World} {A : Around} {E : Value → Shared → Prop} {s : Shared} {z TI TO i1 i2 T : Addr} {fp1 fp2 : List Addr} {n1 n2 i : Nat} {P1 P2 : Nat → Value → Prop} {St1 St2 : Nat → Heap → Prop} {f : Bool} {oT : Obj}
theorem heldItem {Q : Value → Shared → Prop} (S : ZipSep2 z TI TO i1 i2 fp1 fp2) (D1 : Draws prog w A i1 fp1 n1 P1 St1) (D2 : Draws prog w A i2 fp2 n2 P2 St2) (hz : IsZipHeld s.heap z TI TO T f) (hT : s.heap.get? T = some oT) (hI : IsPair s.heap TI (.ref i1) (.ref i2))
    (st1 : St1 i s.heap) (st2 : St2 i s.heap) (l1 : i < n1) (l2 : i < n2)
    (k : ∀ x1 x2 h' tk, P1 i x1 → P2 i x2 → IsZipHeld h' z TI TO T true → St1 (i + 1) h' → St2 (i + 1) h' → IsPair h' s.heap.objs.size x1 x2 → (∀ c o, c ≠ z → c ≠ i1 → c ≠ i2 → s.heap.get? c = some o → h'.get? c = some o) → Q (.ref s.heap.objs.size) { s with heap := h', toks := tk }) :
    wpAny (model prog w) A (Builtin.«zip.__next__» ⟨[.ref z], []⟩) (fun fin s' => ∃ v, fin = .done (.ret v) ∧ Q v s') E s := by
  show wpAny _ _ (field (.ref z) 2 >>= _) _ _ _
  refine wpAny_bind (wpAny_field hz rfl (x := .bool false) rfl ?_)
  show wpAny _ _ (field (.ref z) 3 >>= _) _ _ _
  refine wpAny_bind (wpAny_field hz rfl (x := .ref TI) rfl (wpAny_bind (wpAny_seqItems hI rfl ?_)))
  show wpAny _ _ (Builtin.SmallTypes.ownedTupleIsFree (.ref z) >>= _) _ _ _
  refine wpAny_bind (wpAny_tupleHeld_zip hz hT fun g1 y1 e1 => ?_)
  simp only [Bool.false_eq_true, if_false]
  refine wpAny_bind ?_
  rw [← Array.forIn_toList]
  simp only [List.forIn_cons, List.forIn_nil]
  refine wpAny_bind (wpAny_bind (wpAny_holding ?_))
  show wpAny _ _ (Builtin.SmallTypes.nextOf (.ref i1) >>= _) _ _ _
  refine wpAny_bind (D1.item i { s with heap := g1 } _ _ l1 (D1.over st1 e1 S.zf1) fun x1 g2 t2 p1 d1 e2 => wpAny_pure (wpAny_pure ?_))
  refine wpAny_bind (wpAny_bind (wpAny_holding ?_))
  show wpAny _ _ (Builtin.SmallTypes.nextOf (.ref i2) >>= _) _ _ _
  have d2 : St2 i g2 := D2.over (D2.over st2 e1 S.zf2) e2 S.sep1_2
  refine wpAny_bind (D2.item i { s with heap := g2, toks := t2 } _ _ l2 d2 fun x2 g3 t3 p2 d3 e3 => wpAny_pure (wpAny_pure (wpAny_pure ?_)))
  show wpAny _ _ (newTuple [x1, x2] >>= _) _ _ _
  refine wpAny_bind (wpAny_newTuple (wpAny_pure ⟨_, rfl, ?_⟩))
  have sz : g3.objs.size = s.heap.objs.size := by rw [e3.1, e2.1, e1.1]
  have y3 : IsZipHeld g3 z TI TO T true := e3.extBut _ _ S.zi2 (e2.extBut _ _ S.zi1 y1)
  have d4 : St1 (i + 1) g3 := D1.over d1 e3 S.sep2_1
  have hp : IsPair (g3.push { cls := .type "tuple", data := .seq #[x1, x2] }) g3.objs.size x1 x2 := Heap.get?_push_size _ rfl
  show Q (.ref g3.objs.size) _
  rw [sz] at hp ⊢
  exact k x1 x2 _ _ p1 p2 (Heap.get?_push_of_some _ y3) (D1.frame _ _ _ d4 fun b _ o q => Heap.get?_push_of_some _ q) (D2.frame _ _ _ d3 fun b _ o q => Heap.get?_push_of_some _ q) hp fun c o c1 c2 c3 q => Heap.get?_push_of_some _ (e3.extBut _ _ c3 (e2.extBut _ _ c2 (e1.extBut _ _ c1 q)))
theorem heldEnd {Q : Fin → Shared → Prop} (S : ZipSep2 z TI TO i1 i2 fp1 fp2) (D1 : Draws prog w A i1 fp1 n1 P1 St1) (D2 : Draws prog w A i2 fp2 n2 P2 St2) (hz : IsZipHeld s.heap z TI TO T f) (hT : s.heap.get? T = some oT) (hI : IsPair s.heap TI (.ref i1) (.ref i2))
    (st1 : St1 i s.heap) (st2 : St2 i s.heap) (hl1 : i ≤ n1) (hl2 : i ≤ n2) (he : i = n1 ∨ i = n2)
    (k : ∀ h' tk e, (∀ c o, c ≠ z → c ≠ i1 → c ≠ i2 → s.heap.get? c = some o → h'.get? c = some o) → (∃ o, h'.get? e = some o ∧ o.cls = .type "StopIteration") → E (.ref e) { s with heap := h', toks := tk }) :
    wpAny (model prog w) A (Builtin.«zip.__next__» ⟨[.ref z], []⟩) Q E s := by
  show wpAny _ _ (field (.ref z) 2 >>= _) _ _ _
  refine wpAny_bind (wpAny_field hz rfl (x := .bool false) rfl ?_)
  show wpAny _ _ (field (.ref z) 3 >>= _) _ _ _
  refine wpAny_bind (wpAny_field hz rfl (x := .ref TI) rfl (wpAny_bind (wpAny_seqItems hI rfl ?_)))
  show wpAny _ _ (Builtin.SmallTypes.ownedTupleIsFree (.ref z) >>= _) _ _ _
  refine wpAny_bind (wpAny_tupleHeld_zip hz hT fun g1 y1 e1 => ?_)
  simp only [Bool.false_eq_true, if_false]
  refine wpAny_bind ?_
  rw [← Array.forIn_toList]
  simp only [List.forIn_cons, List.forIn_nil]
  refine wpAny_bind (wpAny_bind (wpAny_holding ?_))
  show wpAny _ _ (Builtin.SmallTypes.nextOf (.ref i1) >>= _) _ _ _
  by_cases c1 : i = n1
  · subst c1
    refine wpAny_bind (D1.done { s with heap := g1 } _ _ (D1.over st1 e1 S.zf1) fun g2 e x2 ho => ?_)
    exact k g2 s.toks e (fun c o a1 a2 _ q => x2 _ _ a2 (e1.extBut _ _ a1 q)) ho
  · have c2 : i = n2 := by rcases he with q | q; exact absurd q c1; exact q
    refine wpAny_bind (D1.item i { s with heap := g1 } _ _ (by omega) (D1.over st1 e1 S.zf1) fun x1 g2 t2 p1 d1 e2 => wpAny_pure (wpAny_pure ?_))
    refine wpAny_bind (wpAny_bind (wpAny_holding ?_))
    show wpAny _ _ (Builtin.SmallTypes.nextOf (.ref i2) >>= _) _ _ _
    have d2 : St2 i g2 := D2.over (D2.over st2 e1 S.zf2) e2 S.sep1_2
    subst c2
    refine wpAny_bind (D2.done { s with heap := g2, toks := t2 } _ _ d2 fun g3 e x3 ho => ?_)
    exact k g3 t2 e (fun c o a1 a2 a3 q => x3 _ _ a3 (e2.extBut _ _ a2 (e1.extBut _ _ a1 q))) ho
end
/-- a zip of two iterators that draw, as what dict() is made of -/
theorem pairZip {prog : Program} {w : World} {z TI TO i1 i2 : Addr} {fp1 fp2 : List Addr} {n1 n2 : Nat} {P1 P2 : Nat → Value → Prop} {St1 St2 : Nat → Heap → Prop} (S : ZipSep2 z TI TO i1 i2 fp1 fp2)
    (D1 : ∀ A : Around, A.handled = none → Draws prog w A i1 fp1 n1 P1 St1) (D2 : ∀ A : Around, A.handled = none → Draws prog w A i2 fp2 n2 P2 St2) (L1 : ∀ h, St1 0 h → ∀ b ∈ fp1, ∃ o, h.get? b = some o) (L2 : ∀ h, St2 0 h → ∀ b ∈ fp2, ∃ o, h.get? b = some o) :
    PairArg prog w "zip" z (z :: TI :: TO :: (fp1 ++ fp2)) [z, TO, i1, i2] (min n1 n2) (fun i k v => P1 i k ∧ P2 i v) (fun h => IsZip h z TI TO .none ∧ IsPair h TI (.ref i1) (.ref i2) ∧ (∃ a b, IsPair h TO a b) ∧ St1 0 h ∧ St2 0 h) where
  type := fun s ok => ⟨_, ok.1, rfl⟩
  notDict := by decide
  keep := fun h h' ok hk => by
    obtain ⟨hz, hI, ⟨a, b, hO⟩, s1, s2⟩ := ok
    exact ⟨hk _ _ hz, hk _ _ hI, ⟨a, b, hk _ _ hO⟩, (D1 callerA rfl).frame _ _ _ s1 fun b _ o e => hk b o e, (D2 callerA rfl).frame _ _ _ s2 fun b _ o e => hk b o e⟩
  there := fun h ok b hb => by
    obtain ⟨hz, hI, ⟨a, c, hO⟩, s1, s2⟩ := ok
    rcases List.mem_cons.mp hb with e | hb
    · rw [e]; exact ⟨_, hz⟩
    rcases List.mem_cons.mp hb with e | hb
    · rw [e]; exact ⟨_, hI⟩
    rcases List.mem_cons.mp hb with e | hb
    · rw [e]; exact ⟨_, hO⟩
    rcases List.mem_append.mp hb with hb | hb
    · exact L1 h s1 b hb
    · exact L2 h s2 b hb
  sub := fun b hb => by
    simp only [List.mem_cons, List.not_mem_nil, or_false] at hb
    rcases hb with rfl | rfl | rfl | rfl
    · exact List.mem_cons_self
    · exact List.mem_cons_of_mem _ (List.mem_cons_of_mem _ List.mem_cons_self)
    · exact List.mem_cons_of_mem _ (List.mem_cons_of_mem _ (List.mem_cons_of_mem _ (List.mem_append_left _ S.mem1)))
    · exact List.mem_cons_of_mem _ (List.mem_cons_of_mem _ (List.mem_cons_of_mem _ (List.mem_append_right _ S.mem2)))
  noKeys := fun A s Q E hA ok h => getAttrOr_miss_zip ok.1 rfl rfl rfl zip_no_keys (by decide +kernel) hA h
  iter := fun A s d Q E hA ok hd hdf h => by
    obtain ⟨hz, hI, ⟨a, b, hO⟩, s1, s2⟩ := ok
    have dz : d ≠ z := fun e => hdf (by rw [e]; exact List.mem_cons_self)
    have dI : d ≠ TI := fun e => hdf (by rw [e]; exact List.mem_cons_of_mem _ List.mem_cons_self)
    have dO : d ≠ TO := fun e => hdf (by rw [e]; exact List.mem_cons_of_mem _ (List.mem_cons_of_mem _ List.mem_cons_self))
    have d1 : ∀ b ∈ fp1, b ≠ d := fun b hb e => hdf (List.mem_cons_of_mem _ (List.mem_cons_of_mem _ (List.mem_cons_of_mem _ (List.mem_append_left _ (e ▸ hb)))))
    have d2 : ∀ b ∈ fp2, b ≠ d := fun b hb e => hdf (List.mem_cons_of_mem _ (List.mem_cons_of_mem _ (List.mem_cons_of_mem _ (List.mem_append_right _ (e ▸ hb)))))
    refine wpAny_pyIter_zip hz (h z [z, TO, i1, i2] (fun i g => IsPair g TI (.ref i1) (.ref i2) ∧ St1 i g ∧ St2 i g ∧ ((IsZip g z TI TO .none ∧ ∃ a b, IsPair g TO a b) ∨ ∃ T f oT, IsZipHeld g z TI TO T f ∧ g.get? T = some oT ∧ T ≠ z ∧ T ≠ i1 ∧ T ≠ i2 ∧ T ≠ d)) s.heap s.toks ?_ ⟨hI, s1, s2, .inl ⟨hz, a, b, hO⟩⟩ (fun _ _ e => e) fun b hb => .inl hb)
    refine ⟨fun hm => ?_, fun i g g' st hk => ?_, fun i u Q1 E1 hi st hds hQ => ?_, fun u Q1 E1 st hQ => ?_⟩
    · simp only [List.mem_cons, List.not_mem_nil, or_false] at hm
      rcases hm with e | e | e | e
      · exact dz e
      · exact dO e
      · exact d1 i1 S.mem1 e.symm
      · exact d2 i2 S.mem2 e.symm
    · obtain ⟨hI, s1, s2, hz⟩ := st
      refine ⟨hk _ _ dI.symm hI, (D1 callerA rfl).frame _ _ _ s1 fun b hb o e => hk b o (d1 b hb) e, (D2 callerA rfl).frame _ _ _ s2 fun b hb o e => hk b o (d2 b hb) e, ?_⟩
      rcases hz with ⟨hz, a, b, hO⟩ | ⟨T, f, oT, hz, hT, r1, r2, r3, r4⟩
      · exact .inl ⟨hk _ _ dz.symm hz, a, b, hk _ _ dO.symm hO⟩
      · exact .inr ⟨T, f, oT, hk _ _ dz.symm hz, hk _ _ r4 hT, r1, r2, r3, r4⟩
    · obtain ⟨hI, s1, s2, hz⟩ := st
      have hi1 : i < n1 := by omega
      have hi2 : i < n2 := by omega
      have lt : ∀ {c : Addr} {o : Obj}, u.heap.get? c = some o → u.heap.objs.size ≠ c := fun e => Nat.ne_of_gt (Heap.lt_size e)
      have ne1 : u.heap.objs.size ≠ i1 := let ⟨_, e⟩ := (D1 callerA rfl).live _ _ s1; lt e
      have ne2 : u.heap.objs.size ≠ i2 := let ⟨_, e⟩ := (D2 callerA rfl).live _ _ s2; lt e
      have mem : ∀ {c : Addr}, c ∉ [z, TO, i1, i2] → c ≠ z ∧ c ≠ TO ∧ c ≠ i1 ∧ c ≠ i2 := fun {c} hc => by
        simp only [List.mem_cons, List.not_mem_nil, or_false, not_or] at hc
        exact hc
      rcases hz with ⟨hz, a, b, hO⟩ | ⟨T, f, oT, hz, hT, r1, r2, r3, r4⟩
      · refine wpAny_pyNext_zipD2_item S (D1 A.in1 hA) (D2 A.in1 hA) hz hI hO s1 s2 hi1 hi2 fun x1 x2 g tk p1 p2 a1 a2 a3 a4 a5 a6 hk => ?_
        exact hQ u.heap.objs.size x1 x2 g tk ⟨p1, p2⟩ (.inl ⟨_, a5, rfl, _, rfl⟩) ⟨hk _ _ S.TIz S.TITO S.TIi1 S.TIi2 hI, a3, a4, .inr ⟨_, false, _, a1, a5, lt hz, ne1, ne2, Nat.ne_of_gt hds⟩⟩
          fun c o hc e => let ⟨m1, m2, m3, m4⟩ := mem hc; hk c o m1 m2 m3 m4 e
      · have hTy : u.TypeIs (.ref z) "zip" := ⟨_, hz, rfl⟩
        unfold pyNext
        refine wpAny_bind (wpAny_attempt (wpAny_callSpecial?_slot (name := Str.ofString "__next__") hTy F.slot_zip_next (wpAny_call_entry F.slot_zip_next hTy F.entry_zip_next (heldItem S (D1 A.in1 hA) (D2 A.in1 hA) hz hT hI s1 s2 hi1 hi2 fun x1 x2 g tk p1 p2 a1 a3 a4 a5 hk => wpAny_pure ?_) (F.args_zip_next_1 _))))
        exact hQ u.heap.objs.size x1 x2 g tk ⟨p1, p2⟩ (.inl ⟨_, a5, rfl, _, rfl⟩) ⟨hk _ _ S.TIz S.TIi1 S.TIi2 hI, a3, a4, .inr ⟨T, true, oT, a1, hk _ _ r1 r2 r3 hT, r1, r2, r3, r4⟩⟩
          fun c o hc e => let ⟨m1, m2, m3, m4⟩ := mem hc; hk c o m1 m3 m4 e
    · obtain ⟨hI, s1, s2, hz⟩ := st
      have mem : ∀ {c : Addr}, c ∉ [z, TO, i1, i2] → c ≠ z ∧ c ≠ TO ∧ c ≠ i1 ∧ c ≠ i2 := fun {c} hc => by
        simp only [List.mem_cons, List.not_mem_nil, or_false, not_or] at hc
        exact hc
      rcases hz with ⟨hz, a, b, hO⟩ | ⟨T, f, oT, hz, hT, r1, r2, r3, r4⟩
      · exact wpAny_pyNext_zipD2_end S (D1 A.in1 hA) (D2 A.in1 hA) hz hI hO s1 s2 (by omega) (by omega) (by omega) fun g tk hk => hQ g tk fun c o hc e => let ⟨m1, m2, m3, m4⟩ := mem hc; hk c o m1 m2 m3 m4 e
      · have hTy : u.TypeIs (.ref z) "zip" := ⟨_, hz, rfl⟩
        unfold pyNext
        refine wpAny_bind (wpAny_attempt (wpAny_callSpecial?_slot (name := Str.ofString "__next__") hTy F.slot_zip_next (wpAny_call_entry F.slot_zip_next hTy F.entry_zip_next (heldEnd S (D1 A.in1 hA) (D2 A.in1 hA) hz hT hI s1 s2 (by omega) (by omega) (by omega) fun g tk e hk ho => ?_) (F.args_zip_next_1 _))))
        obtain ⟨o, ho, hc⟩ := ho
        refine wpAny_bind (wpAny_isInstance (T := "StopIteration") (b := true) ⟨o, ho, hc⟩ isSubtype_stop ?_)
        exact wpAny_pure (hQ g tk fun c o hc e => let ⟨m1, m2, m3, m4⟩ := mem hc; hk c o m1 m3 m4 e)
/-! zip(a, b), a a list, b a tuple -/
abbrev mix1 (h : Heap) (a : Addr) : Heap := h.push { cls := .type "list_iterator", data := .fields #[.ref a, .int 0 0] }
abbrev mix2 (h : Heap) (a b : Addr) : Heap := (mix1 h a).push { cls := .type "tuple_iterator", data := .fields #[.ref b, .int 0 0] }
abbrev mix3 (h : Heap) (a b : Addr) : Heap := (mix2 h a b).push { cls := .type "tuple", data := .seq #[.ref h.objs.size, .ref (mix1 h a).objs.size] }
abbrev mix4 (h : Heap) (a b : Addr) : Heap := (mix3 h a b).push { cls := .type "tuple", data := .seq #[.none, .none] }
abbrev mix5 (h : Heap) (a b : Addr) : Heap := (mix4 h a b).push { cls := .type "zip", data := .fields #[.none, .bool false, .bool false, .ref (mix2 h a b).objs.size, .ref (mix3 h a b).objs.size] }
theorem mixNew (a b : Addr) (xs ys : Array Value) : Meets (Builtin.«zip.__new__» ⟨[.type "zip", .ref a, .ref b], []⟩) (fun _ R s => s.heap.IsList a xs ∧ s.heap.IsTuple b ys ∧ R (.ok (.ret (.ref (mix4 s.heap a b).objs.size))) { s with heap := mix5 s.heap a b }) :=
  .of_wp fun prog w A R s h => by
    obtain ⟨hp, g, d, tk, os⟩ := s
    obtain ⟨ha, hb, h⟩ := h
    have hsub := sub_zip
    have hA : Heap.IsList (Shared.heap ⟨hp, g, d, tk, os⟩) a xs := ha
    have hB : Heap.IsTuple (Shared.heap ⟨hp.push { cls := .type "list_iterator", data := .fields #[.ref a, .int 0 0] }, g, d, tk, os⟩) b ys := Heap.IsTuple.push hb _
    wp_walk using wpAny_pyIter_list hA, wpAny_pyIter_tuple hB
    exact ⟨_, rfl, h⟩
theorem callMix {prog : Program} {w : World} {A : Around} {E : Value → Shared → Prop} {s : Shared} {a b : Addr} {xs ys : Array Value} {Q : Value → Shared → Prop} (ha : s.heap.IsList a xs) (hb : s.heap.IsTuple b ys)
    (k : ∀ h', IsZip h' (s.heap.objs.size + 4) (s.heap.objs.size + 2) (s.heap.objs.size + 3) .none → IsPair h' (s.heap.objs.size + 2) (.ref s.heap.objs.size) (.ref (s.heap.objs.size + 1)) → IsPair h' (s.heap.objs.size + 3) .none .none →
      h'.IsListIter s.heap.objs.size a 0 → h'.IsTupleIter (s.heap.objs.size + 1) b 0 → (∀ c o, s.heap.get? c = some o → h'.get? c = some o) → Q (.ref (s.heap.objs.size + 4)) { s with heap := h' }) :
    wpAny (model prog w) A (call (.type "zip") [.ref a, .ref b]) Q E s := by
  refine callType_new F.called_zip (by decide) (F.typeCall_zip_2 _ _) (F.newCall_zip_2 _ _) (fun obj => F.args_object_init_3 obj _ _) F.entry_zip_new (mixNew a b xs ys) ⟨ha, hb, ?_⟩
  have y1 : (mix1 s.heap a).objs.size = s.heap.objs.size + 1 := Heap.size_push ..
  have y2 : (mix2 s.heap a b).objs.size = s.heap.objs.size + 2 := by rw [Heap.size_push, y1]
  have y3 : (mix3 s.heap a b).objs.size = s.heap.objs.size + 3 := by rw [Heap.size_push, y2]
  have y4 : (mix4 s.heap a b).objs.size = s.heap.objs.size + 4 := by rw [Heap.size_push, y3]
  have up : ∀ {h : Heap} {o : Obj} {c : Addr} {u : Obj}, h.get? c = some u → (h.push o).get? c = some u := fun e => Heap.get?_push_of_some _ e
  have g5 : (mix5 s.heap a b).get? (mix4 s.heap a b).objs.size = some _ := Heap.get?_push_size _ rfl
  have g4 : (mix5 s.heap a b).get? (mix3 s.heap a b).objs.size = some _ := up (Heap.get?_push_size _ rfl)
  have g3 : (mix5 s.heap a b).get? (mix2 s.heap a b).objs.size = some _ := up (up (Heap.get?_push_size _ rfl))
  have g2 : (mix5 s.heap a b).get? (mix1 s.heap a).objs.size = some _ := up (up (up (Heap.get?_push_size _ rfl)))
  have g1 : (mix5 s.heap a b).get? s.heap.objs.size = some _ := up (up (up (up (Heap.get?_push_size _ rfl))))
  show _ ∧ _
  rw [y2, y3, y4] at g5
  rw [y1, y2] at g3
  rw [y3] at g4
  rw [y1] at g2
  rw [y4]
  exact ⟨⟨_, g5, rfl⟩, k _ g5 g3 g4 ⟨_, g1, rfl, rfl⟩ ⟨_, g2, rfl, rfl⟩ fun c o e => up (up (up (up (up e))))⟩
end Pk
end
section
set_option maxHeartbeats 2000000
/-! The rule for dict(zip(names, things)). -/
namespace Pk
open PySem PySem.Spec PyProof.Rows L2
def strKv (e : Str × V) : Key × V := (Sum.inr e.1, e.2)
def tDictZ (K : PySem.W.Frag) (ta : TA) : TE := fun σ H Q => ta σ H fun vs H1 => ∃ (a b : Addr) (ss : List Str) (ys : List V), vs = [.ref a, .ref b] ∧ SqL K H1 a (ss.map V.str) ∧ SqT K H1 b ys ∧ ss.length = ys.length ∧ ∀ p, H1 p = none → Q (.ref p) (upd H1 p (.dK (mergeK [] ((ss.zip ys).map strKv))))
theorem kv_zip : ∀ {ss : List Str} {ys : List V} {us ws : List Value}, Vals (ss.map V.str) us → Vals ys ws → ss.length = ys.length →
    ∃ prs : List (Key × Value), KV ((ss.zip ys).map strKv) prs ∧ prs.length = ss.length ∧ ∀ (i : Nat) (u v : Value), us[i]? = some u → ws[i]? = some v → ∃ z t, u = .str z t ∧ prs[i]? = some (Sum.inr z, v)
  | [], [], _, _, .nil, .nil, _ => ⟨[], .nil, rfl, fun i u v h => by simp at h⟩
  | [], _ :: _, _, _, _, _, h => by simp at h
  | _ :: _, [], _, _, _, _, h => by simp at h
  | z :: ss, y :: ys, _, _, .cons r t, .cons q t2, h => by
    obtain ⟨prs, k, l, f⟩ := kv_zip t t2 (by simpa using h)
    obtain ⟨tk, rfl⟩ := (show ∃ t, _ = Value.str z t from r)
    refine ⟨(Sum.inr z, _) :: prs, .cons ⟨rfl, q⟩ k, by simp [l], fun i u v h1 h2 => ?_⟩
    cases i with
    | zero =>
      cases h1
      cases h2
      exact ⟨z, tk, rfl, rfl⟩
    | succ i => exact f i u v h1 h2
theorem pe_dictZ {X : Cx} {e1 e2 : Expr} {ta : TA} {p pz pos ipos : Pos} (hc : X.calm = true) (hgd : Gl X "dict") (hmd : X.mg "dict" = none) (hgz : Gl X "zip") (hmz : X.mg "zip" = none) (ha : PA X [e1, e2] ta)
    (hst : starEach [e1, e2] X.env = (false, eval e1 X.env) :: starEach [e2] X.env := by rfl) (hpl : (backTo ipos (starEach [e2] X.env)).any (·.1) = false := by rfl)
    (hs2 : starEach [.Call (.Name "zip" pz) [e1, e2] [] ipos] X.env = (false, eval (.Call (.Name "zip" pz) [e1, e2] [] ipos) X.env) :: starEach [] X.env := by rfl) :
    PE X (.Call (.Name "dict" p) [.Call (.Name "zip" pz) [e1, e2] [] ipos] [] pos) (tDictZ X.K ta) := by
  refine ⟨fun pins s σ H Q I h => wpAny_Call_Name_kw (ld_blt (u := .type "dict") I hgd hmd (by decide +kernel) ?_)⟩
  refine PyProof.Rows.callWith_type1 ?_ hs2 (by rfl)
  rw [hs2]
  show wpAny _ _ (spliced ((false, eval (.Call (.Name "zip" pz) [e1, e2] [] ipos) X.env) :: backTo pos (starEach [] X.env))) _ _ s
  refine Calls.spliced_cons (Call_ (ld_blt I hgz hmz PyProof.Rows.boot_zip (PyProof.Rows.callWith_type1 (thn (ha.run ipos pins s σ H _ I h) fun us s1 ⟨vs, H1, I1, r1, q1⟩ => ?_) hst hpl)))
  obtain ⟨a, b, ss, ys, rfl, hA, hB, hl, q⟩ := q1
  obtain ⟨u1, u2, rfl, ra, rb⟩ := vals2 r1
  cases ra
  cases rb
  obtain ⟨its, rv, p1, z1⟩ := I1.list hA
  obtain ⟨its2, rv2, p2, z2⟩ := I1.tuple hB
  have pl := p1.isList
  have a9 : a < s1.heap.objs.size := let ⟨_, e, _⟩ := pl; Heap.lt_size e
  have b9 : b < s1.heap.objs.size := let ⟨_, e, _⟩ := p2; Heap.lt_size e
  refine callMix pl (show s1.heap.IsTuple b its2.toArray from p2) fun hz y1 y2 y3 y4 y5 zk => ?_
  generalize hn : s1.heap.objs.size = n at a9 b9 y1 y2 y3 y4 y5
  refine Calls.spliced_nil ?_
  have D := PySem.W.ktu_apart n a b a9 b9
  have sep : ZipSep2 (n + 4) (n + 2) (n + 3) n (n + 1) [n, a] [n + 1, b] := by
    refine ⟨D.TIz, D.TOz, D.TITO, D.TIi1, List.mem_cons_self, fun q => ?_, fun q => ?_, D.TIi2, List.mem_cons_self, fun q => ?_, fun q => ?_, fun q => ?_, fun q => ?_⟩ <;> simp only [List.mem_cons, List.not_mem_nil, or_false] at q <;> rcases q with e | e
    · exact D.i1z e.symm
    · exact D.l1z e.symm
    · exact D.TOi1 e
    · exact D.l1TO e.symm
    · exact D.i2z e.symm
    · exact D.l2z e.symm
    · exact D.TOi2 e
    · exact D.l2TO e.symm
    · exact D.i12 e
    · exact D.l2i1 e.symm
    · exact D.i12 e.symm
    · exact D.l1i2 e.symm
  have PA := pairZip (prog := X.prog) (w := X.w) sep (fun A hA => Draws.list hA n a (Nat.ne_of_lt a9) its.toArray) (fun A hA => drawsTup hA (n + 1) b (Nat.ne_of_lt (Nat.lt_succ_of_lt b9)) its2.toArray)
    (fun h st q hq => by
      simp only [List.mem_cons, List.not_mem_nil, or_false] at hq
      rcases hq with e | e
      · rw [e]; obtain ⟨o, ho, _⟩ := st.1; exact ⟨o, ho⟩
      · rw [e]; obtain ⟨o, ho, _⟩ := st.2; exact ⟨o, ho⟩)
    (fun h st q hq => by
      simp only [List.mem_cons, List.not_mem_nil, or_false] at hq
      rcases hq with e | e
      · rw [e]; obtain ⟨o, ho, _⟩ := st.1; exact ⟨o, ho⟩
      · rw [e]; obtain ⟨o, ho, _⟩ := st.2; exact ⟨o, ho⟩)
  have pl' : hz.IsList a its.toArray := let ⟨o, e, r⟩ := pl; ⟨o, zk _ _ e, r⟩
  have p2' : hz.IsTuple b its2.toArray := let ⟨o, e, r⟩ := p2; ⟨o, zk _ _ e, r⟩
  obtain ⟨prs, kv, lp, fp⟩ := kv_zip rv rv2 hl
  have l1 := rv.length
  have l2 := rv2.length
  rw [List.length_map] at l1
  have hnn : min its.toArray.size its2.toArray.size = prs.length := by simp; omega
  refine PySem.call_dict_pairs (knd := mixKind X.prog X.w) (kvs := prs) PA (I1.ok.hd hc) ⟨y1, y2, ⟨_, _, y3⟩, ⟨y4, pl'⟩, ⟨y5, p2'⟩⟩ ⟨hnn.symm, fun i key v hkv => ?_⟩ (by rw [hnn, lp]; rw [List.length_map] at z1; exact z1) fun h' tk hd' hk => ?_
  · obtain ⟨z, t, e1, e2⟩ := fp i key v (by simpa using hkv.1) (by simpa using hkv.2)
    exact ⟨_, e2, by rw [e1]; exact mixKind_str X.prog X.w z t⟩
  · have sz : s1.heap.objs.size ≤ hz.objs.size := by
      rw [hn]
      exact Nat.le_of_lt (Nat.lt_of_le_of_lt (Nat.le_add_right n 4) (Heap.lt_size y1))
    have kp : ∀ b u, s1.heap.get? b = some u → h'.get? b = some u := fun c u e => hk c u (fun hm => by
      have hlt : c < s1.heap.objs.size := Heap.lt_size e
      rw [hn] at hlt
      have q : ∀ {c n : Nat}, c < n → c ≠ n + 4 ∧ c ≠ n + 3 ∧ c ≠ n ∧ c ≠ n + 1 := fun h => by omega
      obtain ⟨m1, m2, m3, m4⟩ := q hlt
      simp only [List.mem_cons, List.not_mem_nil, or_false] at hm
      rcases hm with e | e | e | e
      · exact m1 e
      · exact m2 e
      · exact m3 e
      · exact m4 e) (zk _ _ e)
    have hm : (hz.objs.size == sysModules) = false := beq_eq_false_iff_ne.mpr (Nat.ne_of_gt (Nat.lt_of_lt_of_le I1.big sz))
    have hlen : (mergeK [] ((ss.zip ys).map strKv)).length ≤ sizeLine := by
      refine Nat.le_trans (length_mergeK _ []) ?_
      rw [List.length_nil, Nat.zero_add, kv.length, lp]
      rw [List.length_map] at z1
      exact z1
    exact ⟨.ref hz.objs.size, upd H1 hz.objs.size (.dK (mergeK [] ((ss.zip ys).map strKv))), I1.laid (t' := tk) kp sz (show ObjOk X.prog X.w _ _ _ (.dK (mergeK [] ((ss.zip ys).map strKv))) from ⟨hlen, hm, merged [] prs, KV.merge kv .nil, hd'⟩), rfl, q _ (I1.hok.fresh sz)⟩
end Pk
end
/-! holds, rule_holds; the law's own. -/
namespace Pk
open PySem L2
theorem inS_is {zs : List Str} {d : PyData} (h : inS zs d = true) : ∃ z ∈ zs, d = .str z := by
  unfold inS at h
  obtain ⟨z, hz, e⟩ := List.any_eq_true.mp h
  exact ⟨z, hz, strIs_is e⟩
theorem whole_is {lo hi : Int} {d : PyData} (h : wholeD lo hi d = true) : ∃ i, d = .int i := by
  cases d with
  | int i => exact ⟨i, rfl⟩
  | _ => cases h
theorem say_is {ns : List Str} {d : PyData} (h : sayingD ns d = true) : ∃ z so i, d = .tuple [.str z, .str so, .int i] ∧ z ∈ ns ∧ so ∈ sorts2 := by
  unfold sayingD at h
  split at h
  · rw [Bool.and_eq_true, Bool.and_eq_true] at h
    obtain ⟨z, hz, rfl⟩ := inS_is h.1
    obtain ⟨so, hs, rfl⟩ := inS_is h.2.1
    obtain ⟨i, rfl⟩ := whole_is h.2.2
    exact ⟨z, so, i, rfl, hz, hs⟩
  · cases h
theorem rule_is {ns : List Str} {d : PyData} (h : ruleD ns d = true) : (∃ p q, d = .tuple [.str "one", p, q] ∧ sayingD ns p = true ∧ sayingD ns q = true) ∨ ∃ w a b c, d = .tuple [.str w, .str a, .str b, .int c] ∧ w ∈ pairs3 ∧ a ∈ ns ∧ b ∈ ns := by
  unfold ruleD at h
  split at h
  · rw [Bool.and_eq_true, Bool.and_eq_true] at h
    exact .inl ⟨_, _, by rw [strIs_is h.1], h.2.1, h.2.2⟩
  · rw [Bool.and_eq_true, Bool.and_eq_true, Bool.and_eq_true, Bool.and_eq_true] at h
    obtain ⟨w, hw, rfl⟩ := inS_is h.1
    obtain ⟨a, ha, rfl⟩ := inS_is h.2.1
    obtain ⟨b, hb, rfl⟩ := inS_is h.2.2.1
    obtain ⟨c, rfl⟩ := whole_is h.2.2.2.2
    exact .inr ⟨w, a, b, c, rfl, hw, ha, hb⟩
  · cases h
theorem pairs_one : ∀ w ∈ pairs3, decide (w = ("one" : Str)) = false := by decide +kernel
def spHolds : Sp := fun vs H Q _ => ∃ (x : V) (d : Addr) (es : List (Str × Int)) (sd : PyData), vs = [x, .ref d] ∧ Tr H x sd ∧ sayingD (es.map (·.1)) sd = true ∧ H d = some (.dK (es.map kvOf)) ∧ Q (.bl (holdsS (lookE es) sd)) H
def spRuleH : Sp := fun vs H Q _ => ∃ (x : V) (d : Addr) (es : List (Str × Int)) (rd : PyData), vs = [x, .ref d] ∧ Tr H x rd ∧ ruleD (es.map (·.1)) rd = true ∧ H d = some (.dK (es.map kvOf)) ∧ Q (.bl (ruleH (lookE es) rd)) H
theorem tup3 {H : Hp} {x : V} {a b c : PyData} (t : Tr H x (.tuple [a, b, c])) : ∃ (p : Addr) (u v w : V), x = .ref p ∧ H p = some (.tup [u, v, w]) ∧ Tr H u a ∧ Tr H v b ∧ Tr H w c := by
  cases t with
  | @tup p xs _ h al =>
    match xs, al with
    | [_, _, _], .cons t1 (.cons t2 (.cons t3 .nil)) => exact ⟨p, _, _, _, rfl, h, t1, t2, t3⟩
theorem tup4 {H : Hp} {x : V} {a b c d : PyData} (t : Tr H x (.tuple [a, b, c, d])) : ∃ (p : Addr) (u v w y : V), x = .ref p ∧ H p = some (.tup [u, v, w, y]) ∧ Tr H u a ∧ Tr H v b ∧ Tr H w c ∧ Tr H y d := by
  cases t with
  | @tup p xs _ h al =>
    match xs, al with
    | [_, _, _, _], .cons t1 (.cons t2 (.cons t3 (.cons t4 .nil))) => exact ⟨p, _, _, _, _, rfl, h, t1, t2, t3, t4⟩
theorem Tr.strV {H : Hp} {x : V} {z : Str} (t : Tr H x (.str z)) : x = .str z := by cases t; rfl
theorem Tr.intV {H : Hp} {x : V} {z : Int} (t : Tr H x (.int z)) : x = .int z := by cases t; rfl
section
variable {P : Program} {w : World} {K : PySem.W.Frag} {mg : Str → Option Value} {base : Heap}
end
end Pk
section
set_option maxHeartbeats 2000000
/-! try .. except X as n, the error kept behind the suite. -/
namespace Pk
open PySem PySem.Spec PyProof.Rows L2
/-- at a: an error that was caught, of the class cls, its dict at d -/
def keptX (a : Addr) (cls : Value) (d : Option Addr) : HO := .ext fun h => ∃ (oe : Obj) (vs : Array Value), h.get? a = some oe ∧ Zc cls d oe ∧ oe.data = .fields vs
theorem keptX_ok {P : Program} {w : World} {H : Hp} {h : Heap} {a : Addr} {cls : Value} {d : Option Addr} {oe : Obj} {vs : Array Value} (e : h.get? a = some oe) (z : Zc cls d oe) (hd : oe.data = .fields vs) : ObjOk P w H h a (keptX a cls d) :=
  ⟨⟨oe, vs, e, z, hd⟩, ⟨oe, e⟩, fun _ _ ⟨o, v, q, r⟩ k => ⟨o, v, k o q, r⟩⟩
section
variable {X : Cx} {pins : List (Addr × Obj)} {σ : L2.St} {H : Hp} {s : Shared}
/-- what came since the entry may be tracked from now on -/
theorem track {a : Addr} {o : HO} (I : L2.Inv X pins σ H s) (na : H a = none) (n0 : X.s_0.heap.get? a = none) (nL : a ≠ X.env.locals) (nC : ∀ x c, X.env.cells.lookup x = some c → c ≠ a) (np : ∀ p ∈ X.pn ++ pins, p.1 ≠ a) (new : ObjOk X.prog X.w (upd H a o) s.heap a o) : L2.Inv X pins σ (upd H a o) s where
  ok := I.ok
  os := I.os
  bare := I.bare
  base := ⟨I.base.keep, I.base.slot, fun b u e n hx => by
      rw [upd_ne (fun z => by rw [z, n0] at e; cases e)]
      exact I.base.free b u e n hx, I.base.there, fun b xs e => by
      have q := I.base.tups b xs e
      rw [upd_ne (ne_of_none q na)]
      exact q, fun b u v e => by
      have q := I.base.frzs b u v e
      rw [upd_ne (ne_of_none q na)]
      exact q, fun b ps e => by
      obtain ⟨more, q⟩ := I.base.tbls b ps e
      exact ⟨more, by rw [upd_ne (ne_of_none q na)]; exact q⟩⟩
  loc := I.loc
  cell := I.cell
  free := by rw [upd_ne nL.symm]; exact I.free
  freeC := fun x c e => by rw [upd_ne (nC x c e)]; exact I.freeC x c e
  pin := fun p hp => by
    obtain ⟨h1, h2, h3⟩ := I.pin p hp
    exact ⟨h1, by rw [upd_ne (np p hp)]; exact h2, h3⟩
  hok := I.hok.laidN (fun _ _ e => e) na new
  len := I.len
end
def wKeep (K : PySem.W.Frag) (c : Value) (i : Nat) (ts : Addr → Value → Option Addr → TS) (Wout : WX) (D : Ends) : WX := fun cls d σ H =>
  ∃ b, PySem.W.exmOne K cls c = some b ∧ (b = true → ∀ a, H a = none → ts a cls d { nx := fun σ' H' => H' a = none → D.nx (σ'.set i none) (upd H' a (keptX a cls d)), rt := fun _ _ => False, bk := fun _ _ => False, ct := fun _ _ => False } (σ.set i (some (.ref a))) H) ∧ (b = false → Wout cls d σ H)
section
variable {X : Cx} {x n : Str} {c : Value} {i : Nat} {body suite : List Stmt} {b0 : Stmt} {np pos pos' : Pos} {tb : WX → TS} {ts : Addr → Value → Option Addr → TS} {Wout : WX}
theorem ps_try_keep (hex : X.ex = []) (hs : X.stack = X.env :: X.outer) (hf : X.env.frame = some X.env.locals) (hN : X.N.Nodup) (hi : X.N[i]? = some n) (hln : X.env.kindOf n = some .local) (hc : Names X x c) (tk : Takes X Wout)
    (hb : ∀ (W : WX) (pn : List (Addr × Obj)) (xe : Value → Shared → Prop), Takes (X.tr pn xe) W → PassesOwn (model X.prog X.w) X.A X.env xe → PSs (X.tr pn xe) body (tb W))
    (hsu : ∀ (a : Addr) (oe : Obj) (cls : Value) (d : Option Addr) (pn : List (Addr × Obj)), Zc cls d oe → (∃ vs, oe.data = .fields vs) → PSs (X.suite a ((a, oe) :: pn)) (b0 :: suite) (ts a cls d)) :
    PS X (.Try body [.ExceptHandler (some (.Name x np)) (some n) (b0 :: suite) pos'] [] [] pos) (fun D σ H => tb (wKeep X.K c i ts Wout D) D σ H) := by
  refine ⟨fun pins s σ H D I h => ?_⟩
  have ok := I.ok
  have hfr : X.A.frames = some (X.env :: X.outer) := by rw [ok.frames, hs]
  refine wpAny_Try_except (wpAny_mono ((hb (wKeep X.K c i ts Wout D) (X.pn ++ pins) (fun e u1 => wpAny (model X.prog X.w) X.A (noteFrame e X.env) (fun _ u2 => wpAny (model X.prog X.w) X.A (setFlight e none) (fun _ u3 =>
    wpAny (model X.prog X.w) X.A (handleBy e X.env [.ExceptHandler (some (.Name x np)) (some n) (b0 :: suite) pos']) (SP X pins D) X.xe u3) X.xe u2) X.xe u1) (fun u s' xx => ?_) PassesOwn.looking).run [] s σ H D (I.toTry _) h) (fun f s1 hsp => ?_) (fun e s1 he => he))
  · obtain ⟨a, B, sI, pins', σ', H', cls, d, rfl, J', nb, up, sky, na, os, ag, b, hb1, hyes, hno⟩ := xx
    have J : L2.Inv X pins σ' H' sI := J'.ofTry ok
    show wpAny (model X.prog X.w) X.A (noteFrame (.ref a) X.env) _ _ _
    refine Sky.land Zc.steady hfr hf (show Sky B (X.env :: X.outer) a (Zc cls d) X.env.locals s'.heap by rw [← hs]; exact sky) fun h3 fl3 up3 => ?_
    have J3 : L2.Inv X pins σ' H' { s' with heap := h3 } := J.landed nb fl3.1 (up.trans up3) os ag
    obtain ⟨oe3, vs3, he3, hz3, hd3⟩ := fl3.there
    have nfr : a ∉ frs (X.env :: X.outer) := fun hm => by
      obtain ⟨_, o', e', hnf⟩ := fl3.2.2.1.mem hm
      rw [he3] at e'
      cases e'
      exact hnf _ hd3
    have nI : sI.heap.get? a = none := by
      cases e : sI.heap.get? a with
      | none => rfl
      | some o =>
        have q := nb a o e (by rw [hs]; exact nfr)
        rw [fl3.2.1] at q
        cases q
    have n0 : X.s_0.heap.get? a = none := by
      cases e : X.s_0.heap.get? a with
      | none => rfl
      | some o =>
        obtain ⟨o', q⟩ := J.base.there a o e (by rw [hex]; simp)
        rw [nI] at q
        cases q
    have nP : ∀ p ∈ X.pn ++ pins, p.1 ≠ a := fun p hp z => by
      have q := (J.pin p hp).1
      rw [z, nI] at q
      cases q
    have nL : a ≠ X.env.locals := fun z => nfr (List.mem_filterMap.mpr ⟨X.env, List.mem_cons_self, by rw [hf, z]⟩)
    have nF : a ∉ X.fs := fun hm => by
      obtain ⟨e, he, q⟩ := List.mem_filterMap.mp hm
      exact nfr (List.mem_filterMap.mpr ⟨e, List.mem_cons_of_mem _ he, q⟩)
    have S3 := J3.suite he3 hd3 na nL nF
    refine wpAny_handleBy_cons (codeAny_handlers_test ?_) (by intro q; cases q)
    have LT : PySem.W.Looks (model X.prog X.w) h3 (typeOf (.ref a)) cls := fun A Q E u k q => wpAny_typeOf_ref (k _ _ he3) (by rw [hz3.1]; exact q)
    have LM := PySem.W.exm_one (M := model X.prog X.w) J3.kIn LT hb1
    have test : ∀ {Q : Value → Shared → Prop} {E : Value → Shared → Prop}, Q c { s' with heap := h3 } → wpAny (model X.prog X.w) (X.A.mark (some (.ref a))) (eval (.Name x np) X.env) Q E { s' with heap := h3 } := fun {Q E} q => by
      obtain ⟨hg, hdbg, hm | ⟨hm, hv, hnn⟩⟩ := hc
      · exact ld_glob (X := X.suite a ((a, oe3) :: (X.pn ++ pins))) S3 hg hm q hdbg
      · exact ld_blt (X := X.suite a ((a, oe3) :: (X.pn ++ pins))) S3 hg hm hv q hnn hdbg
    refine test (LM.here ?_)
    cases b with
    | true =>
      refine codeAny_handlers_suite_as (HandSPX.lands_againZ fl3 fun h4 fl4 up4 => ?_)
      have J4 : L2.Inv X pins σ' H' { s' with heap := h4 } := J.landed nb fl4.1 ((up.trans up3).trans up4) os ag
      obtain ⟨oe4, vs4, he4, hz4, hd4⟩ := fl4.there
      have S4 := J4.suite he4 hd4 na nL nF
      refine store_ok (X := X.suite a ((a, oe4) :: (X.pn ++ pins))) (v := .ref a) S4 hN hi (.inl hln) rfl (fun s5 S5 => ?_) (.inr hln)
      refine wpAny_mono ((hsu a oe4 cls d (X.pn ++ pins) hz4 ⟨_, hd4⟩).run [] s5 _ H' _ S5 (hyes rfl a na)) (fun f s6 hsp => ?_) (fun _ _ z => False.elim z)
      cases f with
      | next =>
        obtain ⟨σ6, H6, S6, q6⟩ := hsp
        obtain ⟨e6, n6, _⟩ := S6.pin (a, oe4) (List.mem_append_left _ List.mem_cons_self)
        have I6 := S6.unsuite ok
        have I7 := track (o := keptX a cls d) I6 n6 n0 nL (fun y cc hy z => by
          obtain ⟨v, o, h1, h2⟩ := I6.cell y cc hy
          rw [z] at h1
          have h1' : s6.heap.get? a = some o := h1
          rw [show s6.heap.get? a = some oe4 from e6] at h1'
          cases h1'
          rw [hd4] at h2
          cases h2) nP (keptX_ok e6 hz4 hd4)
        exact gone_ok I7 hN hi hln fun s7 J7 => ⟨_, _, J7, q6 n6⟩
      | brk =>
        obtain ⟨_, _, _, q6⟩ := hsp
        exact q6.elim
      | cont =>
        obtain ⟨_, _, _, q6⟩ := hsp
        exact q6.elim
      | ret u =>
        obtain ⟨_, _, _, _, _, q6⟩ := hsp
        exact q6.elim
    | false =>
      show wpAny _ X.A (handleBy (.ref a) X.env []) _ _ _
      refine wpAny_handleBy_nil ?_
      obtain ⟨k1, k2, k3, oe, vs, T, oT, ts', he, hz, hd, h1, hr⟩ := id fl3
      unfold PySem.passOn
      refine wpAny_bind (wpAny_field he hd h1 ?_)
      rw [if_neg (show ¬ ((Value.ref T == Value.none) = true) from by simp)]
      have fin : wpAny (model X.prog X.w) X.A (setFlight (.ref a) X.env.frame) (fun _ u4 => wpAny (model X.prog X.w) X.A (throw (.ref a) : Sem Flow) (SP X pins D) X.xe u4) X.xe { s' with heap := h3 } := by
        rw [hf]
        refine HandSPX.setFlight_upZ fl3 fun h4 hh4 up4 => wpAny_throw (tk _ _ ?_)
        exact ⟨a, B, sI, pins, σ', H', cls, d, rfl, J, nb, (up.trans up3).trans up4, .inr (.inr (by rw [hs]; exact hh4)), na, os, ag, hno rfl⟩
      first
        | exact wpAny_bind (wpAny_pure (wpAny_bind fin))
        | exact wpAny_bind fin
  · cases f with
    | next =>
      obtain ⟨σ', H', J', q⟩ := hsp
      exact wpAny_execs_nil ⟨σ', H', J'.ofTry ok, q⟩
    | brk =>
      obtain ⟨σ', H', J', q⟩ := hsp
      exact ⟨σ', H', J'.ofTry ok, q⟩
    | cont =>
      obtain ⟨σ', H', J', q⟩ := hsp
      exact ⟨σ', H', J'.ofTry ok, q⟩
    | ret u =>
      obtain ⟨v, σ', H', J', r, q⟩ := hsp
      exact ⟨v, σ', H', J'.ofTry ok, r, q⟩
end
section
variable {X : Cx}
/-- what isinstance asks of an error that was kept -/
theorem kept_kit {pz : List (Addr × Obj)} {σ : L2.St} {H : Hp} {s : Shared} {a C : Addr} (I : L2.Inv X pz σ H s) (e : H a = some (keptX a (.ref C) none)) (TT : ExcC X.K C) : ∃ P : Heap → Prop, PySem.W.KitX X.K (.ref a) (.ref C) P ∧ P s.heap := by
  have hcl : (PySem.W.clsIn X.K C).isSome = true := by
    obtain ⟨cd, hc, _⟩ := PySem.W.any_some TT.hd
    rw [hc]
    rfl
  obtain ⟨⟨oe, vs, ho, hy, hd⟩, _, _⟩ := I.hok a _ e
  refine ⟨_, PySem.W.kitx_exc (ox := oe) (od := none) hcl TT.hg TT.hk TT.hs TT.ha TT.hn TT.ht TT.hm, ?_⟩
  obtain ⟨oc, oq, oda, osl⟩ := oe
  obtain ⟨h1, h2⟩ := hy
  dsimp only at h1 h2 hd
  subst h1 h2 hd
  exact ⟨ho, rfl, rfl, trivial⟩
theorem call_isK : CallR X (.builtin "isinstance") (fun xs H Q => ∃ (a C : Addr) (c : V) (u : Value) (b : Bool), xs = [.ref a, c] ∧ H a = some (keptX a (.ref C) none) ∧ ExcC X.K C ∧ ClsV c u ∧ PySem.W.kitOne X.K (.ref C) u = some b ∧ Q (.bl b) H) := by
  intro pz s σ H xs ua Q I r h
  obtain ⟨a, C, c, u, b, rfl, ea, TT, k, e, q⟩ := h
  obtain ⟨u1, u2, rfl, ra, rb⟩ := vals2 r
  have e2 := k.eq rb
  subst e2
  cases (show u1 = Value.ref a from ra)
  obtain ⟨P, Z, p⟩ := kept_kit I ea TT
  exact PySem.W.kia_one Z I.kIn p e (fun z => nomatch z) fun tz => ⟨.bl b, H, I.tok tz, rfl, q⟩
theorem call_isKT : CallR X (.builtin "isinstance") (fun xs H Q => ∃ (a C : Addr) (tp : Addr) (cs : List V) (ws : List Value) (b : Bool), xs = [.ref a, .ref tp] ∧ H a = some (keptX a (.ref C) none) ∧ ExcC X.K C ∧ H tp = some (.tup cs) ∧ Paired ClsV cs ws ∧ PySem.W.kitAny X.K (.ref C) ws = some b ∧ Q (.bl b) H) := by
  intro pz s σ H xs ua Q I r h
  obtain ⟨a, C, tp, cs, ws, b, rfl, ea, TT, htp, k, e, q⟩ := h
  obtain ⟨u1, u2, rfl, ra, rb⟩ := vals2 r
  cases (show u2 = Value.ref tp from rb)
  cases (show u1 = Value.ref a from ra)
  obtain ⟨P, Z, p⟩ := kept_kit I ea TT
  obtain ⟨_, itz, rz, o, h1, h2, n, h3⟩ := (show ObjOk X.prog X.w H s.heap tp (.tup cs) from I.hok tp _ htp)
  have e3 := ClsV.all k rz
  subst e3
  obtain ⟨oc, oq, dt, sl⟩ := o
  simp only at h2 h3
  subst h2 h3
  exact PySem.W.kia_tup Z I.kIn p h1 e (fun z => nomatch z) fun tz => ⟨.bl b, H, I.tok tz, rfl, q⟩
end
end Pk
end
/-! by_names, broken_rules, stands, check_house. -/
namespace Pk
open PySem L2
/-- all stays, but these tables may grow -/
def GrS (Ps : List Addr) (H H' : Hp) : Prop := (∀ P ∈ Ps, GxR.TabG H' P) ∧ ∀ b o, b ∉ Ps → H b = some o → H' b = some o
def Tabs (Ps : List Addr) (H : Hp) : Prop := ∀ P ∈ Ps, GxR.TabG H P
theorem Tabs.not {Ps : List Addr} {H : Hp} {a : Addr} {o : HO} (t : Tabs Ps H) (h : H a = some o) (n : ∀ q, o ≠ .tbl q) : a ∉ Ps := fun hm => by
  obtain ⟨ps, z, _⟩ := t a hm
  rw [h] at z
  cases z
  exact n ps rfl
theorem GrS.refl {Ps : List Addr} {H : Hp} (t : Tabs Ps H) : GrS Ps H H := ⟨t, fun _ _ _ e => e⟩
theorem GrS.trans {Ps : List Addr} {H H1 H2 : Hp} (a : GrS Ps H H1) (b : GrS Ps H1 H2) : GrS Ps H H2 := ⟨b.1, fun c o hc e => b.2 c o hc (a.2 c o hc e)⟩
theorem GrS.of {Ps : List Addr} {P : Addr} {H H' : Hp} (hP : P ∈ Ps) (t : Tabs Ps H) (g : Gr P H H') : GrS Ps H H' := ⟨fun Q hQ => by
  by_cases e : Q = P
  · rw [e]; exact g.1
  · obtain ⟨ps, z, y⟩ := t Q hQ
    exact ⟨ps, g.2 _ _ e z, y⟩, fun b o hb e => g.2 b o (fun z => hb (by rw [z]; exact hP)) e⟩
theorem GrS.same {Ps : List Addr} {H H' : Hp} (t : Tabs Ps H) (s : Same H H') : GrS Ps H H' := ⟨fun Q hQ => let ⟨ps, z, y⟩ := t Q hQ; ⟨ps, s _ _ z, y⟩, fun b o _ e => s b o e⟩
theorem GrS.at {Ps : List Addr} {H H' : Hp} {a : Addr} {o : HO} (g : GrS Ps H H') (t : Tabs Ps H) (h : H a = some o) (n : ∀ q, o ≠ .tbl q) : H' a = some o := g.2 a o (t.not h n) h
mutual
theorem Tr.grs {Ps : List Addr} {H H' : Hp} (t : Tabs Ps H) (g : GrS Ps H H') : ∀ {v : V} {d : PyData}, Tr H v d → Tr H' v d
  | _, _, .non => .non
  | _, _, .bl b => .bl b
  | _, _, .int i => .int i
  | _, _, .str x => .str x
  | _, _, .lst h a => .lst (g.at t h (by intro q z; cases z)) (TrAll.grs t g a)
  | _, _, .tup h a => .tup (g.at t h (by intro q z; cases z)) (TrAll.grs t g a)
  | _, _, .dct h n e a => .dct (g.at t h (by intro q z; cases z)) n e (TrAll.grs t g a)
theorem TrAll.grs {Ps : List Addr} {H H' : Hp} (t : Tabs Ps H) (g : GrS Ps H H') : ∀ {vs : List V} {ds : List PyData}, TrAll H vs ds → TrAll H' vs ds
  | _, _, .nil => .nil
  | _, _, .cons h u => .cons (Tr.grs t g h) (TrAll.grs t g u)
end
end Pk
/-! The law's own: the pen, and what the law says of its things. -/
namespace Pk
open PySem L2
/-- _law_pen: a new pen -/
theorem canInts : ∀ ns : List Int, PyData.canLayAll0 (ns.map PyData.int) = true
  | [] => by simp only [List.map_nil, PyData.canLayAll0]
  | n :: ns => by simp [PyData.canLayAll0, PyData.canLay0, canInts ns]
theorem depthInts : ∀ ns : List Int, PyData.depthAll (ns.map PyData.int) = 0
  | [] => by simp only [List.map_nil, PyData.depthAll]
  | n :: ns => by simp [PyData.depthAll, PyData.depth, depthInts ns]
theorem shapedInts (ns : List Int) : SeqAt.shaped (.list (ns.map PyData.int)) = true := by
  unfold SeqAt.shaped
  rw [Bool.and_eq_true]
  refine ⟨by simp only [PyData.canLay0]; exact canInts ns, decide_eq_true ?_⟩
  simp only [PyData.depth, depthInts]
  omega
theorem dpInts {K : PySem.W.Frag} {H : Hp} : ∀ ns : List Int, DpAll K H (ns.map V.int) (ns.map PyData.int)
  | [] => .nil
  | n :: ns => .cons (.int n) (dpInts ns)
theorem eqvNil (ns : List Int) : PyData.eqv (.list (ns.map PyData.int)) (.list []) = ns.isEmpty := by
  cases ns with
  | nil => rfl
  | cons n ns => rfl
def spPenL (K : PySem.W.Frag) : Sp := fun vs H Q _ => ∃ (a : Addr) (ns : List Int), vs = [.ref a] ∧ SqL K H a (ns.map V.int) ∧ ns.length ≤ 63 ∧
  ∀ (p c : Addr) (H' : Hp), PenC H' p c 0 → Same H H' → Q (.ref p) H'
theorem tab_sb {H H' : Hp} {Pt p c : Addr} {n : Int} (t : GxR.TabG H Pt) (P : PenC H p c n) (s : Sb p H H') : GxR.TabG H' Pt := by
  obtain ⟨ps, h1, h2⟩ := t
  obtain ⟨kv, e⟩ := P.atp
  exact ⟨ps, s.to (ne_of h1 e (by intro z; cases z)) h1, h2⟩
theorem PenC.al {H : Hp} {p c : Addr} {n : Int} (P : PenC H p c n) : Al p [p] H := ⟨List.mem_cons_self, fun b hb => by
  rw [List.mem_singleton.mp hb]
  obtain ⟨kv, e⟩ := P.atp
  exact ⟨_, e⟩⟩

theorem Tabs.same {Ps : List Addr} {H H' : Hp} (t : Tabs Ps H) (s : Same H H') : Tabs Ps H' := fun P hP => let ⟨ps, h1, h2⟩ := t P hP; ⟨ps, s _ _ h1, h2⟩
theorem Tabs.sb {Ps : List Addr} {H H' : Hp} {p c : Addr} {n : Int} (t : Tabs Ps H) (P : PenC H p c n) (s : Sb p H H') : Tabs Ps H' := fun Q hQ => tab_sb (t Q hQ) P s
theorem PenC.grs {Ps : List Addr} {H H' : Hp} {p c : Addr} {n : Int} (P : PenC H p c n) (t : Tabs Ps H) (g : GrS Ps H H') : PenC H' p c n := by
  obtain ⟨ns, u, r, h, e⟩ := P
  exact ⟨ns, u, r, ⟨g.at t h.at_ (by intro q z; cases z), g.at t h.cells (by intro q z; cases z), h.ne, h.len, h.t0, h.r0⟩, e⟩
/-- a list or a tuple of numbers -/
theorem trIntsAll {H : Hp} : ∀ is : List Int, TrAll H (is.map V.int) (is.map PyData.int)
  | [] => .nil
  | i :: is => .cons (.int i) (trIntsAll is)
theorem bulkInts : ∀ is : List Int, PyData.bulkAll (is.map PyData.int) = is.length
  | [] => by simp [PyData.bulkAll]
  | i :: is => by
    simp only [List.map_cons, PyData.bulkAll, PyData.bulk, List.length_cons, bulkInts is]
    omega
theorem lvInts : ∀ {is : List Int}, (∀ j ∈ is, -(5 * farS) ≤ j ∧ j ≤ 5 * farS) → lvs 0 (is.map PyData.int) = true
  | [], _ => rfl
  | i :: is, h => by
    have h0 := h i List.mem_cons_self
    have f : farS = 1000000000000000000 := rfl
    have g := greatG
    rw [List.map_cons, lvs, int_lv (i := i) (by omega) (by omega), lvInts fun j hj => h j (List.mem_cons_of_mem _ hj)]
    rfl
/-- a thing that the law may hand in -/
structure ThingN (d : PyData) : Prop where
  lv : lv 5 d = true
  bulk : d.bulk ≤ 30000
  depth : d.depth ≤ 50
theorem lv_tup {k : Nat} {ds : List PyData} : lv k (.tuple ds) = lvs k ds := by rw [lv]
theorem lv_lst {k : Nat} {ds : List PyData} : lv k (.list ds) = lvs k ds := by rw [lv]
theorem ints_tup {is : List Int} (hl : is.length ≤ 100) (h : ∀ j ∈ is, -(5 * farS) ≤ j ∧ j ≤ 5 * farS) : Pk.lv 0 (.tuple (is.map PyData.int)) = true ∧ (PyData.tuple (is.map PyData.int)).bulk ≤ 100 ∧ (PyData.tuple (is.map PyData.int)).depth ≤ 1 := by
  refine ⟨by rw [lv_tup]; exact lvInts h, ?_, ?_⟩
  · simp only [PyData.bulk, bulkInts]
    omega
  · simp only [PyData.depth, depthInts]
    omega
theorem ThingN.tup {is : List Int} (hl : is.length ≤ 100) (h : ∀ j ∈ is, -(5 * farS) ≤ j ∧ j ≤ 5 * farS) : ThingN (.tuple (is.map PyData.int)) := by
  obtain ⟨h1, h2, h3⟩ := ints_tup hl h
  exact ⟨lv_le (by omega) h1, by omega, by omega⟩
theorem lv_les {is : List Int} (h : ∀ j ∈ is, -(5 * farS) ≤ j ∧ j ≤ 5 * farS) : lvs 5 (is.map PyData.int) = true := by
  have z := lv_le (j := 0) (k := 5) (by omega) (d := .tuple (is.map PyData.int)) (by rw [lv_tup]; exact lvInts h)
  rw [lv_tup] at z
  exact z
theorem ThingN.lst {is : List Int} (hl : is.length ≤ 100) (h : ∀ j ∈ is, -(5 * farS) ≤ j ∧ j ≤ 5 * farS) : ThingN (.list (is.map PyData.int)) := by
  refine ⟨by rw [lv_lst]; exact lv_les h, ?_, ?_⟩
  · simp only [PyData.bulk, bulkInts]
    omega
  · simp only [PyData.depth, depthInts]
    omega

theorem noInts : ∀ is : List Int, PyData.hasDictAll (is.map PyData.int) = false
  | [] => by simp [PyData.hasDictAll]
  | i :: is => by simp [PyData.hasDictAll, PyData.hasDict, noInts is]
theorem pssW {X : Cx} {b : List Stmt} {t u : TS} (h : PSs X b t) (i : ∀ D σ H, u D σ H → t D σ H) : PSs X b u := ⟨fun pins s σ H D I q => h.run pins s σ H D I (i D σ H q)⟩
section
variable {P : Program} {w : World} {K : PySem.W.Frag} {mg : Str → Option Value} {base : Heap}
theorem cutInts (ns : List Int) (lo hi : Option Int) : ∃ ms : List Int, cutV (ns.map V.int) lo hi = ms.map V.int ∧ ms.length ≤ ns.length := by
  have e : cutV (ns.map V.int) lo hi = ((ns.drop (HT.sIx (ns.map V.int).length 0 lo)).take (HT.sIx (ns.map V.int).length (ns.map V.int).length hi - HT.sIx (ns.map V.int).length 0 lo)).map V.int := by
    unfold cutV
    simp only [List.map_take, List.map_drop]
  refine ⟨_, e, ?_⟩
  simp only [List.length_take, List.length_drop]
  omega
theorem scPen : FnScope ["_law_script"] ["_law_script"] (defScope sPen) := ⟨rfl, rfl, rfl, by decide +kernel, rfl, by decide +kernel, by decide +kernel⟩
theorem ok_pen {f : Addr} {fd : FuncData} (F : Fun K "_law_pen" "_law_pen" sPen f fd) (B : Blt mg) : FnOk P w K mg base CX0 1 f fd ["_law_script"] (spPenL K) := by
  refine F.ok scPen (fun vs H Q E h => ?_) (fun cdv A outer s H vs Q E hr h => ?_)
  · obtain ⟨a, ns, rfl, _⟩ := h
    rfl
  obtain ⟨a, ns, rfl, hS, hl, k⟩ := h
  refine ⟨_, pss_one (ps_ret (pe_lst (pa_cons (pe_callTy call_list_of (by rfl) B.list (by decide +kernel) (pa_cons (pe_slice sl_list (pv 0) po_none (po_some pe_int)) pa_nil)) (pa_cons pe_int (pa_cons pe_int pa_nil))))), ?_⟩
  obtain ⟨ms, em, hm⟩ := cutInts ns none (some 63)
  refine ⟨_, rfl, 63, rfl, a, _, rfl, hS, fun q hq => ?_⟩
  have s2 := sameNew hq (.lst (cutV (ns.map V.int) none (some 63)))
  refine ⟨q, _, rfl, .inl (SqL.of upd_same), fun c hc => ?_⟩
  have s3 := sameNew hc (.lst (cutV (ns.map V.int) none (some 63)))
  refine ⟨by show 3 ≤ sizeLine; decide, fun p hp => ?_⟩
  have s4 := sameNew hp (.lst (penL c 0 0))
  have cp : c ≠ p := fun z => by
    rw [← z, upd_same] at hp
    cases hp
  refine k p c _ ⟨ms, 0, 0, ⟨upd_same, ?_, cp, by omega, by omega, by omega⟩, by omega⟩ (s2.trans (s3.trans s4))
  rw [upd_ne cp, upd_same, em]
end
end Pk
/-! The law's own: dials, numbers. -/
namespace Pk
open PySem L2
/-- a dial whose span is no wider than wd -/
def spanLe (wd : Int) : PyData → Prop
  | .tuple [_, .int lo, .int hi, _, _, _] => hi - lo ≤ wd
  | _ => True
def spDials : Sp := fun vs H Q _ => ∃ (p c : Addr) (X : List Addr) (n wd : Int) (m : Nat), vs = [.ref p, .int (m : Nat), .int wd] ∧ 0 ≤ wd ∧ wd ≤ 1000000000000000000 ∧ PenC H p c n ∧ Al p X H ∧ n ≤ 300000000 ∧ 1 ≤ m ∧ m ≤ 12 ∧
  ∀ (t : Addr) (ds : List PyData) (H' : Hp), PenC H' p c (n + 200) → Sb p H H' → Tr (zn X H') (.ref t) (.tuple ds) → 1 ≤ ds.length → ds.length ≤ m → (∀ d ∈ ds, DialG d ∧ spanLe wd d) → (ds.map nameOf).Nodup → PyProof.Rows.sortedS (ds.map nameOf) = true → Q (.ref t) H'
abbrev nDials : List Str := ["_law_pen_here", "_law_many", "_law_wide", "_law_found", "_law_name", "_law_low", "_law_high", "_law_way"]
theorem ways_mem {x : V} (h : x ∈ [V.str "both", V.str "both", V.str "up", V.str "down"]) : ∃ so ∈ ways3, x = .str so := by
  simp only [List.mem_cons, List.not_mem_nil, or_false] at h
  rcases h with rfl | rfl | rfl | rfl <;> exact ⟨_, by decide +kernel, rfl⟩
section
variable {P : Program} {w : World} {K : PySem.W.Frag} {mg : Str → Option Value} {base : Heap}
theorem scDials : FnScope nDials ["_law_pen_here", "_law_many", "_law_wide"] (defScope sDials) := ⟨rfl, rfl, rfl, by decide +kernel, rfl, by decide +kernel, by decide +kernel⟩
set_option maxHeartbeats 1000000 in
theorem ok_dials {f g g2 g3 : Addr} {fd gd gd2 gd3 : FuncData} (F : Fun K "_law_dials" "_law_dials" sDials f fd) (G : FnOk P w K mg base CX0 1 g gd ["_law_pen_here", "_law_many"] spDrawC) (bG : Binds K gd ["_law_pen_here", "_law_many"] []) (kG : PySem.W.keepIn K (.ref g) = true) (mG : mg "_law_draw" = some (.ref g))
    (G2 : FnOk P w K mg base CX0 2 g2 gd2 ["_law_pen_here", "_law_lot"] spPick) (bG2 : Binds K gd2 ["_law_pen_here", "_law_lot"] []) (kG2 : PySem.W.keepIn K (.ref g2) = true) (mG2 : mg "_law_pick" = some (.ref g2))
    (G3 : FnOk P w K mg base CX0 3 g3 gd3 ["_law_pen_here", "_law_many"] spNames) (bG3 : Binds K gd3 ["_law_pen_here", "_law_many"] []) (kG3 : PySem.W.keepIn K (.ref g3) = true) (mG3 : mg "_law_names" = some (.ref g3)) (B : Blt mg) :
    FnOk P w K mg base CX0 4 f fd ["_law_pen_here", "_law_many", "_law_wide"] spDials := by
  refine F.ok scDials (fun vs H Q E h => ?_) (fun cdv A outer s H vs Q E hr h => ?_)
  · obtain ⟨p, c, X, n, wd, m, rfl, _⟩ := h
    rfl
  obtain ⟨p, c, X, n, wd, m, rfl, wd1, wd2, pen, al, hn, m1, m2, k⟩ := h
  have hr1 : Room 1 _ := hr.mono (by decide)
  have hr2 : Room 2 _ := hr.mono (by decide)
  refine ⟨_, pss_cons (ps_set (i := 3) scDials.nd rfl (.inl rfl) (pe_lst pa_nil)) <|
    pss_cons (ps_for PassesOwn.never rfl (pi_list (pe_call G3 hr rfl mG3 kG3 bG3 .nil pass0 (pa_cons (pv 0) (pa_cons (pv 1) pa_nil)))) (pg_name (i := 4) scDials.nd rfl (.inl rfl))
      (pss_cons (ps_set (i := 5) scDials.nd rfl (.inl rfl) (pe_call G2 hr2 rfl mG2 kG2 bG2 .nil pass0 (pa_cons (pv 0) (pa_cons (pe_lst (pa_cons pe_int <| pa_cons pe_int <| pa_cons (pe_op op_add pe_int (pe_call G hr1 rfl mG kG bG .nil pass0 (pa_cons (pv 0) (pa_cons pe_int pa_nil)))) <| pa_cons (pe_op op_sub pe_int (pe_call G hr1 rfl mG kG bG .nil pass0 (pa_cons (pv 0) (pa_cons pe_int pa_nil)))) <| pa_cons (pe_op op_fdiv (pv 2) pe_int) <| pa_cons (pe_op op_sub pe_int (pe_op op_fdiv (pv 2) pe_int)) pa_nil)) pa_nil))))
      (pss_cons (ps_set (i := 6) scDials.nd rfl (.inl rfl) (pe_callB (call_min2 rfl) (by rfl) B.min (by decide +kernel) (pa_cons (pe_op op_pow pe_int pe_int) (pa_cons (pe_op op_add (pv 5) (pe_call G2 hr2 rfl mG2 kG2 bG2 .nil pass0 (pa_cons (pv 0) (pa_cons (pe_lst (pa_cons (pv 2) <| pa_cons (pv 2) <| pa_cons (pe_call G hr1 rfl mG kG bG .nil pass0 (pa_cons (pv 0) (pa_cons (pe_op op_add (pv 2) pe_int) pa_nil))) <| pa_cons (pe_op op_fdiv (pv 2) pe_int) pa_nil)) pa_nil)))) pa_nil))))
      (pss_cons (ps_set (i := 7) scDials.nd rfl (.inl rfl) (pe_call G2 hr2 rfl mG2 kG2 bG2 .nil pass0 (pa_cons (pv 0) (pa_cons (pe_lst (pa_cons pe_str <| pa_cons pe_str <| pa_cons pe_str <| pa_cons pe_str pa_nil)) pa_nil))))
      (pss_one (ps_expr (pe_bm PySem.F.plainAttrs_list PySem.F.slot_list_append PySem.F.type_list_append mt_append (pv 3) (pa_cons (pe_tup (pa_cons (pv 4) <| pa_cons (pv 5) <| pa_cons (pv 6) <| pa_cons (pv 7) <|
        pa_cons (pe_op op_add pe_int (pe_call G hr1 rfl mG kG bG .nil pass0 (pa_cons (pv 0) (pa_cons (pe_call G2 hr2 rfl mG2 kG2 bG2 .nil pass0 (pa_cons (pv 0) (pa_cons (pe_lst (pa_cons pe_int <| pa_cons pe_int <| pa_cons (pe_op op_pow pe_int pe_int) pa_nil)) pa_nil))) pa_nil)))) <|
        pa_cons (pe_op op_add pe_int (pe_call G hr1 rfl mG kG bG .nil pass0 (pa_cons (pv 0) (pa_cons pe_int pa_nil)))) pa_nil)) pa_nil)))))))) <|
    pss_one (ps_ret (pe_callTy call_tuple_of (by rfl) B.tuple (by decide +kernel) (pa_cons (pv 3) pa_nil))), ?_⟩
  have fg := farG
  refine ⟨by show 0 ≤ sizeLine; decide, fun D hD => ?_⟩
  have sD := sameNew hD (.lst [])
  have Dp := pen.newp hD
  have Dc := pen.newc hD
  refine ⟨_, rfl, _, rfl, p, c, n, m, rfl, pen.same sD, by omega, m1, m2, fun l ss H1 pen1 sb1 nl hl l1 l2 hok hok8 nd srt => ?_⟩
  have hD1 := sb1.to Dp (upd_same (H := H) (a := D) (o := .lst []))
  have sbA : Sb p H H1 := (Sb.same sD).trans sb1
  have lD : l ≠ D := fun z => by rw [z, upd_same] at nl; cases nl
  have lp : l ≠ p := (pen.same sD).newp nl
  refine ⟨l, rfl, ⟨_, SqL.of hl⟩, for_list (K := K) (a := l) (xs := ss.map V.str) (fun i σ H3 => ∃ (v4 v5 v6 v7 : Option V) (xs : List V) (ds : List PyData), σ = [some (.ref p), some (.int (m : Nat)), some (.int wd), some (.ref D), v4, v5, v6, v7] ∧ H3 D = some (.lst xs) ∧ H3 l = some (.lst (ss.map V.str)) ∧ TrAll (zn (D :: X) H3) xs ds ∧ ds.length = i ∧ (∀ d ∈ ds, DialG d ∧ spanLe wd d) ∧ ds.map nameOf = ss.take i ∧ PenC H3 p c (n + 30 + 10 * i) ∧ Sb p H H3)
    ⟨none, none, none, none, [], [], rfl, hD1, hl, .nil, rfl, fun _ h => absurd h (by simp), rfl, pen1.mono (by omega), sbA⟩ (fun i σ H3 _ ⟨_, _, _, _, _, _, _, _, q, _⟩ => SqL.of q) ?_ ?_⟩
  · rintro i y σ H3 hy ⟨v4, v5, v6, v7, xs, ds, rfl, e1, el, e2, e3, e4, e4n, pen3, sb3⟩
    rw [List.getElem?_map] at hy
    obtain ⟨z, hz, rfl⟩ := Option.map_eq_some_iff.mp hy
    have hil : i < ss.length := (List.getElem?_eq_some_iff.mp hz).1
    have al3 : Al p (D :: X) H3 := (al.sb sb3 pen3).cons e1
    -- low
    refine ⟨_, rfl, _, rfl, p, c, _, _, rfl, pen3, by omega, by decide, by decide, fun w1 H4 a1 a2 pen4 sb4 => ?_⟩
    refine ⟨_, _, rfl, rfl, _, rfl, p, c, _, _, rfl, pen4, by omega, by decide, by decide, fun w2 H5 a3 a4 pen5 sb5 => ?_⟩
    refine ⟨_, _, rfl, rfl, _, rfl, _, _, rfl, rfl, ⟨by decide, by decide⟩, _, rfl, _, _, rfl, rfl, ⟨by decide, by decide⟩, _, _, rfl, rfl, by show 6 ≤ sizeLine; decide, fun e he => ?_⟩
    refine .inl ⟨p, c, e, _, _, rfl, pen5.same (sameNew he _), by omega, pen5.newp he, .inl upd_same, by simp, by simp, fun x H6 hx pen6 sb6 => ?_⟩
    obtain ⟨lo, rfl, lo1, lo2⟩ : ∃ lo : Int, x = .int lo ∧ -farS ≤ lo ∧ lo ≤ 600000000000000000 := by
      simp only [List.mem_cons, List.not_mem_nil, or_false] at hx
      rcases hx with rfl | rfl | rfl | rfl | rfl | rfl <;> exact ⟨_, rfl, by omega, by omega⟩
    have sb6' : Sb p H3 H6 := sb4.trans (sb5.trans ((Sb.same (sameNew he _)).trans sb6))
    clear hx sb4 sb5 sb6 pen4 pen5 he
    -- high
    refine ⟨_, _, rfl, rfl, ⟨by decide, by decide, by decide⟩, _, rfl, _, rfl, _, rfl, _, rfl, _, rfl, _, rfl, _, _, rfl, rfl, p, c, _, _, rfl, pen6, by omega, by omega, by omega, fun w3 H7 a5 a6 pen7 sb7 => ?_⟩
    refine ⟨_, rfl, _, _, rfl, rfl, ⟨by decide, by decide⟩, by show 4 ≤ sizeLine; decide, fun e he => ?_⟩
    refine .inl ⟨p, c, e, _, _, rfl, pen7.same (sameNew he _), by omega, pen7.newp he, .inl upd_same, by simp, by simp, fun x H8 hx pen8 sb8 => ?_⟩
    obtain ⟨sp, rfl, sp1, sp2⟩ : ∃ sp : Int, x = .int sp ∧ 0 ≤ sp ∧ sp ≤ wd := by
      simp only [List.mem_cons, List.not_mem_nil, or_false] at hx
      rcases hx with rfl | rfl | rfl | rfl <;> exact ⟨_, rfl, by omega, by omega⟩
    have sb8' : Sb p H3 H8 := sb6'.trans (sb7.trans ((Sb.same (sameNew he _)).trans sb8))
    clear hx sb7 sb8 pen7 he pen6 sb6'
    refine ⟨_, _, rfl, rfl, _, _, rfl, ?_⟩
    obtain ⟨hi, ehi, hi1, hi2, hi3⟩ : ∃ hi : Int, (if lo + sp < 10 ^ (18 : Int).toNat then lo + sp else 10 ^ (18 : Int).toNat) = hi ∧ lo ≤ hi ∧ hi ≤ farS ∧ hi - lo ≤ wd := by
      rw [ints10]
      refine ⟨_, rfl, ?_, ?_, ?_⟩ <;> split <;> omega
    rw [ehi]
    -- way
    refine ⟨_, rfl, by show 4 ≤ sizeLine; decide, fun e he => ?_⟩
    refine .inl ⟨p, c, e, _, _, rfl, pen8.same (sameNew he _), by omega, pen8.newp he, .inl upd_same, by simp, by simp, fun x H9 hx pen9 sb9 => ?_⟩
    obtain ⟨way, hway, rfl⟩ := ways_mem hx
    have sb9' : Sb p H3 H9 := sb8'.trans ((Sb.same (sameNew he _)).trans sb9)
    clear hx sb9 pen8 he sb8'
    have e19 := sb9'.to Dp e1
    -- the dial
    refine ⟨_, rfl, .inl ⟨rfl, _, SqL.of e19⟩, _, rfl, _, rfl, _, rfl, _, rfl, _, rfl, _, rfl, _, _, rfl, rfl, ⟨by decide, by decide, by decide⟩, by show 3 ≤ sizeLine; decide, fun e he => ?_⟩
    refine .inl ⟨p, c, e, _, _, rfl, pen9.same (sameNew he _), by omega, pen9.newp he, .inl upd_same, by simp, by simp, fun x H10 hx pen10 sb10 => ?_⟩
    obtain ⟨mu, rfl, mu1, mu2⟩ : ∃ mu : Int, x = .int mu ∧ 1 ≤ mu ∧ mu ≤ 1000000 := by
      simp only [List.mem_cons, List.not_mem_nil, or_false] at hx
      rcases hx with rfl | rfl | rfl <;> exact ⟨_, rfl, by decide, by decide⟩
    refine ⟨p, c, _, _, rfl, pen10, by omega, mu1, by omega, fun up H11 a7 a8 pen11 sb11 => ?_⟩
    refine ⟨_, _, rfl, rfl, _, rfl, p, c, _, _, rfl, pen11, by omega, by decide, by decide, fun dn H12 a9 a10 pen12 sb12 => ?_⟩
    have sbB : Sb p H3 H12 := sb9'.trans ((Sb.same (sameNew he _)).trans (sb10.trans (sb11.trans sb12)))
    clear hx sb10 sb11 sb12 pen9 pen10 pen11 he sb9'
    refine ⟨_, _, rfl, rfl, by show 6 ≤ sizeLine; decide, fun t nt => ?_⟩
    have st := sameNew nt (.tup [.str z, .int lo, .int hi, .str way, .int (1 + up), .int (1 + dn)])
    have tZ : t ∉ D :: X := (al3.sb sbB pen12).out nt
    have tD : t ≠ D := fun z => tZ (by rw [z]; exact List.mem_cons_self)
    have xl := e2.length
    refine ⟨D, _, _, rfl, rfl, st _ _ (sbB.to Dp e1), small1000 (by omega), ?_⟩
    refine ⟨_, _, _, _, xs ++ [.ref t], ds ++ [.tuple [.str z, .int lo, .int hi, .str way, .int (1 + up), .int (1 + dn)]], rfl, upd_same, by rw [upd_ne lD]; exact st _ _ (sbB.to lp el), .snoc (e2.same ((zn_sb sbB al3.mem).trans ((zn_mono st).trans (zn_upd List.mem_cons_self)))) (.tup ?_ (.cons (.str _) (.cons (.int _) (.cons (.int _) (.cons (.str _) (.cons (.int _) (.cons (.int _) .nil))))))), by simp [e3], fun d hd => ?_, ?_, ?_, ((sb3.trans sbB).trans (Sb.same st)).new hD Dp _⟩
    · rw [zn_out tZ, upd_ne tD, upd_same]
    · rcases List.mem_append.mp hd with hd | hd
      · exact e4 d hd
      · rw [List.mem_singleton.mp hd]
        exact ⟨⟨z, way, lo, hi, _, _, rfl, hok z (List.mem_of_getElem? hz), hok8 z (List.mem_of_getElem? hz), hway, lo1, hi1, hi2, by omega, by omega, by omega, by omega⟩, hi3⟩
    · rw [List.map_append, e4n, take_more hz]
      rfl
    · exact ((pen12.same st).upd Dp Dc _).mono (by omega)
  rintro σ H3 ⟨v4, v5, v6, v7, xs, ds, rfl, e1, el, e2, e3, e4, e4n, pen3, sb3⟩
  rw [List.length_map] at e3 pen3 e4n
  rw [List.take_length] at e4n
  have al3 := al.sb sb3 pen3
  refine ⟨_, rfl, D, _, rfl, .inl ⟨SqL.of e1, fun t nt => ?_⟩⟩
  have st := sameNew nt (.tup xs)
  have tZ := al3.out nt
  exact k t ds _ ((pen3.same st).mono (by omega)) (sb3.trans (Sb.same st)) (.tup (by rw [zn_out tZ, upd_same]) (e2.same (zn_drop.trans (zn_mono st)))) (by omega) (by omega) e4 (by rw [e4n]; exact nd) (by rw [e4n]; exact srt)
end
end Pk
/-! The law's own: numbers, saying, said, rule. -/
namespace Pk
open PySem L2
/-- dials at t, apart from X -/
structure DialsAt (X : List Addr) (H : Hp) (t : Addr) (wd : Int) (ds : List PyData) : Prop where
  tr : Tr (zn X H) (.ref t) (.tuple ds)
  d1 : 1 ≤ ds.length
  d2 : ds.length ≤ 12
  ok : ∀ d ∈ ds, DialG d ∧ spanLe wd d
theorem DialsAt.sb {p : Addr} {X : List Addr} {H H' : Hp} {t : Addr} {wd : Int} {ds : List PyData} (a : DialsAt X H t wd ds) (s : Sb p H H') (hp : p ∈ X) : DialsAt X H' t wd ds := ⟨a.tr.same (zn_sb s hp), a.d1, a.d2, a.ok⟩
theorem DialsAt.same {X : List Addr} {H H' : Hp} {t : Addr} {wd : Int} {ds : List PyData} (a : DialsAt X H t wd ds) (s : Same (zn X H) (zn X H')) : DialsAt X H' t wd ds := ⟨a.tr.same s, a.d1, a.d2, a.ok⟩
theorem DialsAt.un {X : List Addr} {H : Hp} {t : Addr} {wd : Int} {ds : List PyData} (a : DialsAt X H t wd ds) : ∃ xs, H t = some (.tup xs) ∧ t ∉ X ∧ TrAll (zn X H) xs ds := by
  cases a.tr with
  | @tup _ xs _ h al =>
    obtain ⟨h1, h2⟩ := zn_some h
    exact ⟨xs, h2, h1, al⟩
theorem TrAll.mem {H : Hp} {xs : List V} {ds : List PyData} {x : V} (t : TrAll H xs ds) (h : x ∈ xs) : ∃ d ∈ ds, Tr H x d := by
  obtain ⟨j, hj, e⟩ := List.getElem_of_mem h
  obtain ⟨d, hd, td⟩ := t.get (i := j) (v := x) (by rw [List.getElem?_eq_getElem hj, e])
  exact ⟨d, List.mem_of_getElem? hd, td⟩
theorem span_is {wd : Int} {d : PyData} {nm way : Str} {lo hi up dn : Int} (h : spanLe wd d) (e : d = .tuple [.str nm, .int lo, .int hi, .str way, .int up, .int dn]) : hi - lo ≤ wd := by
  subst e
  exact h
def spLNums : Sp := fun vs H Q _ => ∃ (p c t : Addr) (X : List Addr) (n wd : Int) (ds : List PyData), vs = [.ref p, .ref t] ∧ 0 ≤ wd ∧ wd ≤ 1000000000000000000 ∧ PenC H p c n ∧ Al p X H ∧ n ≤ 300000000 ∧ DialsAt X H t wd ds ∧
  ∀ (y : Addr) (is : List Int) (H' : Hp), PenC H' p c (n + 30) → Sb p H H' → H' y = some (.tup (is.map V.int)) → y ∉ X → is.length = ds.length → (∀ j ∈ is, -farS ≤ j ∧ j ≤ farS) → (∀ p ∈ ds.zip is, inSpan p.1 p.2) → Q (.ref y) H'
abbrev nLNums : List Str := ["_law_pen_here", "_law_dials_here", "_law_found", "_law_name", "_law_low", "_law_high", "_law_way", "_law_up", "_law_down", "_law_number"]
/-- a dict of the dials' numbers -/
structure AtD (H : Hp) (d : Addr) (ds : List PyData) (es : List (Str × Int)) : Prop where
  at_ : H d = some (.dK (es.map kvOf))
  keys : es.map (·.1) = ds.map nameOf
  far : ∀ e ∈ es, -farS ≤ e.2 ∧ e.2 ≤ farS
theorem AtD.to {H H' : Hp} {d : Addr} {ds : List PyData} {es : List (Str × Int)} (a : AtD H d ds es) (h : H' d = some (.dK (es.map kvOf))) : AtD H' d ds es := ⟨h, a.keys, a.far⟩
theorem AtD.same {H H' : Hp} {d : Addr} {ds : List PyData} {es : List (Str × Int)} (a : AtD H d ds es) (s : Same H H') : AtD H' d ds es := a.to (s _ _ a.at_)
theorem AtD.ne {H : Hp} {d p c : Addr} {n : Int} {ds : List PyData} {es : List (Str × Int)} (a : AtD H d ds es) (P : PenC H p c n) : d ≠ p := fun z => by
  obtain ⟨kv, h⟩ := P.atp
  rw [← z, a.at_] at h
  cases h
theorem AtD.sb {H H' : Hp} {d p c : Addr} {n : Int} {ds : List PyData} {es : List (Str × Int)} (a : AtD H d ds es) (P : PenC H p c n) (s : Sb p H H') : AtD H' d ds es := a.to (s.to (a.ne P) a.at_)
theorem AtD.look {H : Hp} {d : Addr} {ds : List PyData} {es : List (Str × Int)} {z : Str} (a : AtD H d ds es) (h : z ∈ ds.map nameOf) : DGet H d (.str z) (some (.int (lookE es z))) ∧ -farS ≤ lookE es z ∧ lookE es z ≤ farS := by
  rw [← a.keys] at h
  refine ⟨look_dg a.at_ h, ?_⟩
  obtain ⟨i, h1, h2⟩ := val_kv h
  have q : lookE es z = i := by
    unfold lookE
    rw [h2]
  rw [q]
  exact a.far _ h1
def spSayW : Sp := fun vs H Q _ => ∃ (p c t d : Addr) (X : List Addr) (n wd : Int) (ds : List PyData) (es : List (Str × Int)), vs = [.ref p, .ref t, .ref d] ∧ 0 ≤ wd ∧ wd ≤ 1000000000000000000 ∧ PenC H p c n ∧ Al p X H ∧ n ≤ 300000000 ∧ DialsAt X H t wd ds ∧ AtD H d ds es ∧
  ∀ (s : Addr) (z so : Str) (i : Int) (H' : Hp), PenC H' p c (n + 6) → Sb p H H' → H' s = some (.tup [.str z, .str so, .int i]) → s ∉ X → z ∈ ds.map nameOf → so ∈ sorts2 → -(2 * farS) ≤ i → i ≤ 2 * farS → Q (.ref s) H'
abbrev nSay : List Str := ["_law_pen_here", "_law_dials_here", "_law_at", "_law_name", "_law_low", "_law_high", "_law_way", "_law_up", "_law_down", "_law_by"]
def spRuleW : Sp := fun vs H Q _ => ∃ (p c t d : Addr) (X : List Addr) (n wd : Int) (ds : List PyData) (es : List (Str × Int)), vs = [.ref p, .ref t, .ref d] ∧ 0 ≤ wd ∧ wd ≤ 1000000000000000000 ∧ PenC H p c n ∧ Al p X H ∧ n ≤ 200000000 ∧ DialsAt X H t wd ds ∧ (ds.map nameOf).Nodup ∧ AtD H d ds es ∧
  ∀ (r : Addr) (rd : PyData) (H' : Hp), PenC H' p c (n + 30) → Sb p H H' → Tr (zn X H') (.ref r) rd → RuleG (ds.map nameOf) rd → Q (.ref r) H'
abbrev nLRule : List Str := ["_law_pen_here", "_law_dials_here", "_law_at", "_law_word", "_law_first", "_law_second", "_law_k", "_law_one", "_law_other", "_law_slack"]
section
variable {P : Program} {w : World} {K : PySem.W.Frag} {mg : Str → Option Value} {base : Heap}
theorem scLNums : FnScope nLNums ["_law_pen_here", "_law_dials_here"] (defScope sLNums) := ⟨rfl, rfl, rfl, by decide +kernel, rfl, by decide +kernel, by decide +kernel⟩
set_option maxHeartbeats 1000000 in
theorem ok_lnums {f g g2 : Addr} {fd gd gd2 : FuncData} (F : Fun K "_law_numbers" "_law_numbers" sLNums f fd) (G : FnOk P w K mg base CX0 1 g gd ["_law_pen_here", "_law_many"] spDrawC) (bG : Binds K gd ["_law_pen_here", "_law_many"] []) (kG : PySem.W.keepIn K (.ref g) = true) (mG : mg "_law_draw" = some (.ref g))
    (G2 : FnOk P w K mg base CX0 2 g2 gd2 ["_law_pen_here", "_law_lot"] spPick) (bG2 : Binds K gd2 ["_law_pen_here", "_law_lot"] []) (kG2 : PySem.W.keepIn K (.ref g2) = true) (mG2 : mg "_law_pick" = some (.ref g2)) (B : Blt mg) :
    FnOk P w K mg base CX0 3 f fd ["_law_pen_here", "_law_dials_here"] spLNums := by
  refine F.ok scLNums (fun vs H Q E h => ?_) (fun cdv A outer s H vs Q E hr h => ?_)
  · obtain ⟨p, c, t, X, n, wd, ds, rfl, _⟩ := h
    rfl
  obtain ⟨p, c, t, X, n, wd, ds, rfl, wd1, wd2, pen, al, hn, da, k⟩ := h
  have hr1 : Room 1 _ := hr.mono (by decide)
  have hr2 : Room 2 _ := hr
  refine ⟨_, pss_cons (ps_set (i := 2) scLNums.nd rfl (.inl rfl) (pe_lst pa_nil)) <|
    pss_cons (ps_for PassesOwn.never rfl (pi_tup (pv 1)) (pg_tup (by rfl) (pgs_cons (pg_name (i := 3) scLNums.nd rfl (.inl rfl)) <| pgs_cons (pg_name (i := 4) scLNums.nd rfl (.inl rfl)) <| pgs_cons (pg_name (i := 5) scLNums.nd rfl (.inl rfl)) <| pgs_cons (pg_name (i := 6) scLNums.nd rfl (.inl rfl)) <| pgs_cons (pg_name (i := 7) scLNums.nd rfl (.inl rfl)) <| pgs_cons (pg_name (i := 8) scLNums.nd rfl (.inl rfl)) pgs_nil))
      (pss_cons (ps_set (i := 9) scLNums.nd rfl (.inl rfl) (pe_call G2 hr2 rfl mG2 kG2 bG2 .nil pass0 (pa_cons (pv 0) (pa_cons (pe_lst (pa_cons (pv 4) <| pa_cons (pv 5) <| pa_cons (pe_op op_add (pv 4) (pe_op op_fdiv (pe_op op_sub (pv 5) (pv 4)) pe_int)) <| pa_cons (pe_op op_add (pv 4) (pe_call G hr1 rfl mG kG bG .nil pass0 (pa_cons (pv 0) (pa_cons (pe_op op_add (pe_op op_sub (pv 5) (pv 4)) pe_int) pa_nil)))) pa_nil)) pa_nil))))
      (pss_one (ps_expr (pe_bm PySem.F.plainAttrs_list PySem.F.slot_list_append PySem.F.type_list_append mt_append (pv 2) (pa_cons (pv 9) pa_nil)))))) <|
    pss_one (ps_ret (pe_callTy call_tuple_of (by rfl) B.tuple (by decide +kernel) (pa_cons (pv 2) pa_nil))), ?_⟩
  obtain ⟨xs, ht, tX, alA⟩ := da.un
  have tp : t ≠ p := fun z => tX (by rw [z]; exact al.mem)
  refine ⟨by show 0 ≤ sizeLine; decide, fun D hD => ?_⟩
  have sD := sameNew hD (.lst [])
  have Dp := pen.newp hD
  have Dc := pen.newc hD
  have xl := alA.length
  have d2 := da.d2
  refine ⟨_, rfl, t, rfl, ⟨_, SqT.of (sD _ _ ht)⟩, for_tup (K := K) (a := t) (xs := xs) (fun i σ H3 => ∃ (v3 v4 v5 v6 v7 v8 v9 : Option V) (is : List Int), σ = [some (.ref p), some (.ref t), some (.ref D), v3, v4, v5, v6, v7, v8, v9] ∧ H3 D = some (.lst (is.map V.int)) ∧ is.length = i ∧ ((∀ j ∈ is, -farS ≤ j ∧ j ≤ farS) ∧ ∀ p ∈ ds.zip is, inSpan p.1 p.2) ∧ PenC H3 p c (n + 2 * i) ∧ Sb p H H3)
    ⟨none, none, none, none, none, none, none, [], rfl, upd_same, rfl, ⟨fun _ h => absurd h (by simp), fun _ h => absurd h (by simp)⟩, (pen.same sD).mono (by omega), Sb.same sD⟩ (fun i σ H3 _ ⟨_, _, _, _, _, _, _, _, _, _, _, _, _, s3⟩ => SqT.of (s3.to tp ht)) ?_ ?_⟩
  · rintro i y σ H3 hy ⟨v3, v4, v5, v6, v7, v8, v9, is, rfl, e1, e2, ⟨e3, e4⟩, pen3, sb3⟩
    have hil : i < xs.length := (List.getElem?_eq_some_iff.mp hy).1
    obtain ⟨d, hd, tr⟩ := alA.get hy
    have hdm := da.ok d (List.mem_of_getElem? hd)
    obtain ⟨b, nm, way, lo, hi, up, dn, rfl, hb, q1, q2, q3, _, ed⟩ := dial_tup (tr.same (zn_sb sb3 al.mem)) hdm.1
    have hb := zn_le _ _ hb
    have hsp := span_is hdm.2 ed
    refine ⟨b, _, rfl, SqT.of hb, rfl, _, _, rfl, _, _, rfl, _, _, rfl, _, _, rfl, _, _, rfl, _, _, rfl, rfl, ?_⟩
    refine ⟨_, rfl, _, rfl, _, rfl, _, rfl, _, rfl, _, rfl, _, _, rfl, rfl, _, _, rfl, rfl, ⟨by decide, by decide⟩, _, _, rfl, rfl, _, rfl, _, rfl, _, rfl, _, rfl, _, _, rfl, rfl, _, _, rfl, rfl, p, c, _, _, rfl, pen3, by omega, by omega, by omega, fun w1 H4 a1 a2 pen4 sb4 => ?_⟩
    refine ⟨_, _, rfl, rfl, by show 4 ≤ sizeLine; decide, fun e he => ?_⟩
    refine .inl ⟨p, c, e, _, _, rfl, pen4.same (sameNew he _), by omega, pen4.newp he, .inl upd_same, by simp, by simp, fun x H5 hx pen5 sb5 => ?_⟩
    obtain ⟨v, rfl, v1, v2⟩ : ∃ v : Int, x = .int v ∧ lo ≤ v ∧ v ≤ hi := by
      simp only [List.mem_cons, List.not_mem_nil, or_false] at hx
      rcases hx with rfl | rfl | rfl | rfl <;> exact ⟨_, rfl, by omega, by omega⟩
    have sbB : Sb p H3 H5 := sb4.trans ((Sb.same (sameNew he _)).trans sb5)
    have e15 := sbB.to Dp e1
    refine ⟨_, rfl, .inl ⟨rfl, _, SqL.of e15⟩, _, rfl, D, _, _, rfl, rfl, e15, small1000 (by rw [List.length_map]; omega), ?_⟩
    refine ⟨_, _, _, _, _, _, _, is ++ [v], rfl, by rw [upd_same, List.map_append]; rfl, by simp [e2], ⟨fun j hj => ?_, zip_snoc e2 hd e4 (by rw [ed]; exact ⟨v1, v2⟩)⟩, (pen5.upd Dp Dc _).mono (by omega), (sb3.trans sbB).new hD Dp _⟩
    rcases List.mem_append.mp hj with hj | hj
    · exact e3 j hj
    · rw [List.mem_singleton.mp hj]
      omega
  rintro σ H3 ⟨v3, v4, v5, v6, v7, v8, v9, is, rfl, e1, e2, ⟨e3, e4⟩, pen3, sb3⟩
  refine ⟨_, rfl, D, _, rfl, .inl ⟨SqL.of e1, fun y ny => ?_⟩⟩
  have sy := sameNew ny (.tup (is.map V.int))
  exact k y is _ ((pen3.same sy).mono (by omega)) (sb3.trans (Sb.same sy)) upd_same ((al.sb sb3 pen3).out ny) (by omega) e3 e4
theorem scSayL : FnScope nSay ["_law_pen_here", "_law_dials_here", "_law_at"] (defScope sSay) := ⟨rfl, rfl, rfl, by decide +kernel, rfl, by decide +kernel, by decide +kernel⟩
set_option maxHeartbeats 1000000 in
theorem ok_sayL {f g g2 : Addr} {fd gd gd2 : FuncData} (F : Fun K "_law_saying" "_law_saying" sSay f fd) (G : FnOk P w K mg base CX0 1 g gd ["_law_pen_here", "_law_many"] spDrawC) (bG : Binds K gd ["_law_pen_here", "_law_many"] []) (kG : PySem.W.keepIn K (.ref g) = true) (mG : mg "_law_draw" = some (.ref g))
    (G2 : FnOk P w K mg base CX0 2 g2 gd2 ["_law_pen_here", "_law_lot"] spPick) (bG2 : Binds K gd2 ["_law_pen_here", "_law_lot"] []) (kG2 : PySem.W.keepIn K (.ref g2) = true) (mG2 : mg "_law_pick" = some (.ref g2)) :
    FnOk P w K mg base CX0 3 f fd ["_law_pen_here", "_law_dials_here", "_law_at"] spSayW := by
  refine F.ok scSayL (fun vs H Q E h => ?_) (fun cdv A outer s H vs Q E hr h => ?_)
  · obtain ⟨p, c, t, d, X, n, wd, ds, es, rfl, _⟩ := h
    rfl
  obtain ⟨p, c, t, d, X, n, wd, ds, es, rfl, wd1, wd2, pen, al, hn, da, ad, k⟩ := h
  have hu := hu_of hr
  have hr1 : Room 1 _ := hr.mono (by decide)
  refine ⟨_, pss_cons (ps_asg (pe_call G2 hr rfl mG2 kG2 bG2 .nil pass0 (pa_cons (pv 0) (pa_cons (pv 1) pa_nil))) (pg_tup (by rfl) (pgs_cons (pg_name (i := 3) scSayL.nd rfl (.inl rfl)) <| pgs_cons (pg_name (i := 4) scSayL.nd rfl (.inl rfl)) <| pgs_cons (pg_name (i := 5) scSayL.nd rfl (.inl rfl)) <| pgs_cons (pg_name (i := 6) scSayL.nd rfl (.inl rfl)) <| pgs_cons (pg_name (i := 7) scSayL.nd rfl (.inl rfl)) <| pgs_cons (pg_name (i := 8) scSayL.nd rfl (.inl rfl)) pgs_nil))) <|
    pss_cons (ps_set (i := 9) scSayL.nd rfl (.inl rfl) (pe_op op_mul (pe_call G2 hr rfl mG2 kG2 bG2 .nil pass0 (pa_cons (pv 0) (pa_cons (pe_lst (pa_cons pe_int <| pa_cons pe_int <| pa_cons pe_int <| pa_cons pe_int <| pa_cons (pe_op op_sub (pv 5) (pv 4)) <| pa_cons (pe_call G hr1 rfl mG kG bG .nil pass0 (pa_cons (pv 0) (pa_cons (pe_op op_add (pe_op op_sub (pv 5) (pv 4)) pe_int) pa_nil))) pa_nil)) pa_nil)))
      (pe_call G2 hr rfl mG2 kG2 bG2 .nil pass0 (pa_cons (pv 0) (pa_cons (pe_lst (pa_cons pe_int <| pa_cons (pe_op op_sub pe_int pe_int) pa_nil)) pa_nil))))) <|
    pss_one (ps_ret (pe_tup (pa_cons (pv 3) <| pa_cons (pe_call G2 hr rfl mG2 kG2 bG2 .nil pass0 (pa_cons (pv 0) (pa_cons (pe_lst (pa_cons pe_str <| pa_cons pe_str pa_nil)) pa_nil))) <| pa_cons (pe_op op_add (pe_dget hu (pv 2) (pv 3) (fun _ _ => rfl)) (pv 9)) pa_nil))), ?_⟩
  obtain ⟨xs, ht, tX, alA⟩ := da.un
  have tp : t ≠ p := fun z => tX (by rw [z]; exact al.mem)
  have xl := alA.length
  have d1 := da.d1
  have d2 := da.d2
  have fg := farG
  refine ⟨_, rfl, _, rfl, .inl ⟨p, c, t, n, xs, rfl, pen, by omega, tp, .inr ht, by omega, by omega, fun x H1 hx pen1 sb1 => ?_⟩⟩
  obtain ⟨dd, hdd, tr⟩ := alA.mem hx
  have hdm := da.ok dd hdd
  obtain ⟨b, nm, way, lo, hi, up, dn, rfl, hb, q1, q2, q3, _, ed⟩ := dial_tup (tr.same (zn_sb sb1 al.mem)) hdm.1
  have hb := zn_le _ _ hb
  have hsp := span_is hdm.2 ed
  have hnm : nm ∈ ds.map nameOf := List.mem_map.mpr ⟨dd, hdd, by rw [ed]; rfl⟩
  refine ⟨b, _, rfl, SqT.of hb, rfl, _, _, rfl, _, _, rfl, _, _, rfl, _, _, rfl, _, _, rfl, _, _, rfl, rfl, ?_⟩
  refine ⟨_, rfl, _, rfl, _, rfl, _, _, rfl, rfl, _, rfl, _, rfl, _, rfl, _, _, rfl, rfl, _, _, rfl, rfl, p, c, _, _, rfl, pen1, by omega, by omega, by omega, fun w1 H4 a1 a2 pen4 sb4 => ?_⟩
  refine ⟨by show 6 ≤ sizeLine; decide, fun e he => ?_⟩
  refine .inl ⟨p, c, e, _, _, rfl, pen4.same (sameNew he _), by omega, pen4.newp he, .inl upd_same, by simp, by simp, fun x H5 hx pen5 sb5 => ?_⟩
  obtain ⟨v, rfl, v1, v2⟩ : ∃ v : Int, x = .int v ∧ 0 ≤ v ∧ v ≤ 1000000000000000000 := by
    simp only [List.mem_cons, List.not_mem_nil, or_false] at hx
    rcases hx with rfl | rfl | rfl | rfl | rfl | rfl <;> exact ⟨_, rfl, by omega, by omega⟩
  refine ⟨_, rfl, _, _, rfl, rfl, by show 2 ≤ sizeLine; decide, fun e2 he2 => ?_⟩
  refine .inl ⟨p, c, e2, _, _, rfl, pen5.same (sameNew he2 _), by omega, pen5.newp he2, .inl upd_same, by simp, by simp, fun x H6 hx pen6 sb6 => ?_⟩
  obtain ⟨u, rfl, u1⟩ : ∃ u : Int, x = .int u ∧ (u = 1 ∨ u = -1) := by
    simp only [List.mem_cons, List.not_mem_nil, or_false] at hx
    rcases hx with rfl | rfl
    · exact ⟨_, rfl, by omega⟩
    · exact ⟨_, rfl, by omega⟩
  refine ⟨_, _, rfl, rfl, mulL (by omega) (by omega), ?_⟩
  have hvu : -1000000000000000000 ≤ v * u ∧ v * u ≤ 1000000000000000000 := by
    rcases u1 with rfl | rfl <;> omega
  have sb6' : Sb p H H6 := sb1.trans (sb4.trans ((Sb.same (sameNew he _)).trans (sb5.trans ((Sb.same (sameNew he2 _)).trans sb6))))
  refine ⟨_, rfl, _, rfl, by show 2 ≤ sizeLine; decide, fun e3 he3 => ?_⟩
  refine .inl ⟨p, c, e3, _, _, rfl, pen6.same (sameNew he3 _), by omega, pen6.newp he3, .inl upd_same, by simp, by simp, fun x H7 hx pen7 sb7 => ?_⟩
  obtain ⟨so, hso, rfl⟩ := sorts_mem hx
  have sb7' : Sb p H H7 := sb6'.trans ((Sb.same (sameNew he3 _)).trans sb7)
  obtain ⟨dg, f1, f2⟩ := (ad.sb pen sb7').look hnm
  refine ⟨_, rfl, _, rfl, d, _, rfl, dg, _, rfl, _, _, rfl, rfl, by show 3 ≤ sizeLine; decide, fun s ns => ?_⟩
  have ss := sameNew ns (.tup [.str nm, .str so, .int (lookE es nm + v * u)])
  exact k s nm so _ _ ((pen7.same ss).mono (by omega)) (sb7'.trans (Sb.same ss)) upd_same ((al.sb sb7' pen7).out ns) hnm hso (by omega) (by omega)
theorem scLSaid : FnScope ["_law_saying_here", "_law_at", "_law_name", "_law_sort", "_law_number"] ["_law_saying_here", "_law_at"] (defScope sLSaid) := ⟨rfl, rfl, rfl, by decide +kernel, rfl, by decide +kernel, by decide +kernel⟩
theorem ok_lsaid {f : Addr} {fd : FuncData} (F : Fun K "_law_said" "_law_said" sLSaid f fd) : FnOk P w K mg base CX0 1 f fd ["_law_saying_here", "_law_at"] spHolds := by
  refine F.ok scLSaid (fun vs H Q E h => ?_) (fun cdv A outer s H vs Q E hr h => ?_)
  · obtain ⟨x, d, es, sd, rfl, _⟩ := h
    rfl
  obtain ⟨x, d, es, sd, rfl, t, hs, hd, k⟩ := h
  have hu := hu_of hr
  refine ⟨_, pss_cons (ps_asg (pv 0) (pg_tup (by rfl) (pgs_cons (pg_name (i := 2) scLSaid.nd rfl (.inl rfl)) <| pgs_cons (pg_name (i := 3) scLSaid.nd rfl (.inl rfl)) <| pgs_cons (pg_name (i := 4) scLSaid.nd rfl (.inl rfl)) pgs_nil))) <|
    pss_one (ps_ret (pe_ifExp (pt_cmpR op_eq (pv 3) pe_str (nomark _))
    (pe_cmpR op_ge (pe_dget hu (pv 1) (pv 2) (fun _ _ => rfl)) (pv 4) (nomark _))
    (pe_cmpR op_le (pe_dget hu (pv 1) (pv 2) (fun _ _ => rfl)) (pv 4) (nomark _)))), ?_⟩
  obtain ⟨z, so, i, rfl, hz, hso⟩ := say_is hs
  obtain ⟨p, u, v, y, rfl, hp, t1, t2, t3⟩ := tup3 t
  cases t1.strV
  cases t2.strV
  cases t3.intV
  have dg := look_dg hd hz
  have e : holdsS (lookE es) (.tuple [.str z, .str so, .int i]) = if decide (so = "least") = true then decide (i ≤ lookE es z) else decide (lookE es z ≤ i) := rfl
  rw [e] at k
  refine ⟨_, rfl, p, _, rfl, SqT.of hp, rfl, _, _, rfl, _, _, rfl, _, _, rfl, rfl, ?_⟩
  refine ⟨_, rfl, rfl, _, rfl, ?_⟩
  refine ite2 (fun c => ?_) (fun c => ?_)
  · have c' : decide (so = ("least" : Str)) = true := by simpa using c
    rw [if_pos c'] at k
    exact ⟨_, rfl, _, rfl, d, _, rfl, dg, _, rfl, _, _, rfl, rfl, k⟩
  · have c' : ¬ decide (so = ("least" : Str)) = true := by simpa using c
    rw [if_neg c'] at k
    exact ⟨_, rfl, _, rfl, d, _, rfl, dg, _, rfl, _, _, rfl, rfl, k⟩
end
end Pk
/-! The law's own: rule. -/
namespace Pk
open PySem L2
section
variable {P : Program} {w : World} {K : PySem.W.Frag} {mg : Str → Option Value} {base : Heap}
theorem other_ne {k v m : Int} (h0 : 0 ≤ k) (h1 : k < m) (v0 : 0 ≤ v) (v1 : v < m - 1) : 0 ≤ (k + 1 + v) % m ∧ (k + 1 + v) % m < m ∧ (k + 1 + v) % m ≠ k := by
  have m0 : 0 < m := by omega
  refine ⟨Int.emod_nonneg _ (by omega), Int.emod_lt_of_pos _ m0, fun e => ?_⟩
  by_cases c : k + 1 + v < m
  · rw [Int.emod_eq_of_lt (by omega) c] at e
    omega
  · have q : (k + 1 + v) % m = k + 1 + v - m := by
      rw [← Int.sub_emod_right, Int.emod_eq_of_lt (by omega) (by omega)]
    omega
theorem scLRule : FnScope nLRule ["_law_pen_here", "_law_dials_here", "_law_at"] (defScope sLRule) := ⟨rfl, rfl, rfl, by decide +kernel, rfl, by decide +kernel, by decide +kernel⟩
theorem nd_at {ds : List PyData} {i j : Nat} {a b : PyData} (h : (ds.map nameOf).Nodup) (hi : ds[i]? = some a) (hj : ds[j]? = some b) (ne : i ≠ j) : nameOf a ≠ nameOf b := fun e => by
  have h1 : (ds.map nameOf)[i]? = some (nameOf a) := by rw [List.getElem?_map, hi]; rfl
  have h2 : (ds.map nameOf)[j]? = some (nameOf a) := by rw [List.getElem?_map, hj, e]; rfl
  have l1 := (List.getElem?_eq_some_iff.mp h1).1
  exact ne ((List.getElem?_inj l1 h).mp (h1.trans h2.symm))
theorem words5 {x : V} (h : x ∈ [V.str "off", V.str "most", V.str "least", V.str "one", V.str "one"]) : ∃ so : Str, x = .str so ∧ (so = "one" ∨ so ∈ pairs3) := by
  simp only [List.mem_cons, List.not_mem_nil, or_false] at h
  rcases h with rfl | rfl | rfl | rfl | rfl
  · exact ⟨_, rfl, .inr (by decide +kernel)⟩
  · exact ⟨_, rfl, .inr (by decide +kernel)⟩
  · exact ⟨_, rfl, .inr (by decide +kernel)⟩
  · exact ⟨_, rfl, .inl rfl⟩
  · exact ⟨_, rfl, .inl rfl⟩
set_option maxHeartbeats 2000000 in
theorem ok_lrule {f g g2 g3 g4 : Addr} {fd gd gd2 gd3 gd4 : FuncData} (F : Fun K "_law_rule" "_law_rule" sLRule f fd) (G : FnOk P w K mg base CX0 1 g gd ["_law_pen_here", "_law_many"] spDrawC) (bG : Binds K gd ["_law_pen_here", "_law_many"] []) (kG : PySem.W.keepIn K (.ref g) = true) (mG : mg "_law_draw" = some (.ref g))
    (G2 : FnOk P w K mg base CX0 2 g2 gd2 ["_law_pen_here", "_law_lot"] spPick) (bG2 : Binds K gd2 ["_law_pen_here", "_law_lot"] []) (kG2 : PySem.W.keepIn K (.ref g2) = true) (mG2 : mg "_law_pick" = some (.ref g2))
    (G3 : FnOk P w K mg base CX0 3 g3 gd3 ["_law_pen_here", "_law_dials_here", "_law_at"] spSayW) (bG3 : Binds K gd3 ["_law_pen_here", "_law_dials_here", "_law_at"] []) (kG3 : PySem.W.keepIn K (.ref g3) = true) (mG3 : mg "_law_saying" = some (.ref g3))
    (G4 : FnOk P w K mg base CX0 1 g4 gd4 ["_law_saying_here", "_law_at"] spHolds) (bG4 : Binds K gd4 ["_law_saying_here", "_law_at"] []) (kG4 : PySem.W.keepIn K (.ref g4) = true) (mG4 : mg "_law_said" = some (.ref g4)) (B : Blt mg) :
    FnOk P w K mg base CX0 4 f fd ["_law_pen_here", "_law_dials_here", "_law_at"] spRuleW := by
  refine F.ok scLRule (fun vs H Q E h => ?_) (fun cdv A outer s H vs Q E hr h => ?_)
  · obtain ⟨p, c, t, d, X, n, wd, ds, es, rfl, _⟩ := h
    rfl
  obtain ⟨p, c, t, d, X, n, wd, ds, es, rfl, wd1, wd2, pen, al, hn, da, nd, ad, k⟩ := h
  have hu := hu_of hr
  have hr1 : Room 1 _ := hr.mono (by decide)
  have hr2 : Room 2 _ := hr.mono (by decide)
  refine ⟨_, pss_cons (ps_set (i := 3) scLRule.nd rfl (.inl rfl) (pe_call G2 hr2 rfl mG2 kG2 bG2 .nil pass0 (pa_cons (pv 0) (pa_cons (pe_lst (pa_cons pe_str <| pa_cons pe_str <| pa_cons pe_str <| pa_cons pe_str <| pa_cons pe_str pa_nil)) pa_nil)))) <|
    pss_cons (ps_if (PW.pt (pw_or (pt_cmpR op_eq (pv 3) pe_str (nomark _)) (pw_or1 (pt_cmpR op_lt (pe_callB call_len_seq (by rfl) B.len PySem.boot_len (pa_cons (pv 1) pa_nil)) pe_int (nomark _)))))
      (pss_cons (ps_par (i := 4) (j := 5) (by rfl) scLRule.nd rfl rfl (by decide) rfl rfl (pa_cons (pe_call G3 hr rfl mG3 kG3 bG3 .nil pass0 (pa_cons (pv 0) (pa_cons (pv 1) (pa_cons (pv 2) pa_nil)))) (pa_cons (pe_call G3 hr rfl mG3 kG3 bG3 .nil pass0 (pa_cons (pv 0) (pa_cons (pv 1) (pa_cons (pv 2) pa_nil)))) pa_nil)) (by rfl))
      (pss_cons (ps_if (PW.pt (pw_and (pt_not (pt_val (pe_call G4 hr1 rfl mG4 kG4 bG4 .nil pass0 (pa_cons (pv 4) (pa_cons (pv 2) pa_nil))))) (pw_and1 (pt_not (pt_val (pe_call G4 hr1 rfl mG4 kG4 bG4 .nil pass0 (pa_cons (pv 5) (pa_cons (pv 2) pa_nil))))))))
        (pss_one (ps_set (i := 4) scLRule.nd rfl (.inl rfl) (pe_tup (pa_cons (pe_ix ix_tup (pv 4) pe_int (fun _ _ => rfl)) (pa_cons (pe_ifExp (pt_cmpR op_eq (pe_ix ix_tup (pv 4) pe_int (fun _ _ => rfl)) pe_str (nomark _)) pe_str pe_str) (pa_cons (pe_ix ix_tup (pv 4) pe_int (fun _ _ => rfl)) pa_nil)))))) pss_nil)
      (pss_one (ps_ret (pe_tup (pa_cons pe_str (pa_cons (pv 4) (pa_cons (pv 5) pa_nil)))))))) pss_nil) <|
    pss_cons (ps_set (i := 6) scLRule.nd rfl (.inl rfl) (pe_call G hr1 rfl mG kG bG .nil pass0 (pa_cons (pv 0) (pa_cons (pe_callB call_len_seq (by rfl) B.len PySem.boot_len (pa_cons (pv 1) pa_nil)) pa_nil)))) <|
    pss_cons (ps_par (i := 7) (j := 8) (by rfl) scLRule.nd rfl rfl (by decide) rfl rfl (pa_cons (pe_ix ix_tup (pe_ix ix_tup (pv 1) (pv 6) (fun _ _ => rfl)) pe_int (fun _ _ => rfl)) (pa_cons (pe_ix ix_tup (pe_ix ix_tup (pv 1) (pe_op op_mod (pe_op op_add (pe_op op_add (pv 6) pe_int) (pe_call G hr1 rfl mG kG bG .nil pass0 (pa_cons (pv 0) (pa_cons (pe_op op_sub (pe_callB call_len_seq (by rfl) B.len PySem.boot_len (pa_cons (pv 1) pa_nil)) pe_int) pa_nil)))) (pe_callB call_len_seq (by rfl) B.len PySem.boot_len (pa_cons (pv 1) pa_nil))) (fun _ _ => rfl)) pe_int (fun _ _ => rfl)) pa_nil)) (by rfl)) <|
    pss_cons (ps_set (i := 9) scLRule.nd rfl (.inl rfl) (pe_call G2 hr2 rfl mG2 kG2 bG2 .nil pass0 (pa_cons (pv 0) (pa_cons (pe_lst (pa_cons pe_int <| pa_cons pe_int <| pa_cons pe_int <| pa_cons pe_int <| pa_cons pe_int <| pa_cons (pe_call G hr1 rfl mG kG bG .nil pass0 (pa_cons (pv 0) (pa_cons (pe_op op_add (pe_op op_sub (pe_ix ix_tup (pe_ix ix_tup (pv 1) (pv 6) (fun _ _ => rfl)) pe_int (fun _ _ => rfl)) (pe_ix ix_tup (pe_ix ix_tup (pv 1) (pv 6) (fun _ _ => rfl)) pe_int (fun _ _ => rfl))) pe_int) pa_nil))) pa_nil)) pa_nil)))) <|
    pss_cons (ps_if (pt_cmpR op_eq (pv 3) pe_str (nomark _)) (pss_one (ps_ret (pe_tup (pa_cons (pv 3) (pa_cons (pv 7) (pa_cons (pv 8) (pa_cons (pe_op op_add (pe_op op_sub (pe_dget hu (pv 2) (pv 7) (fun _ _ => rfl)) (pe_dget hu (pv 2) (pv 8) (fun _ _ => rfl))) (pv 9)) pa_nil))))))) pss_nil) <|
    pss_one (ps_ret (pe_tup (pa_cons (pv 3) (pa_cons (pv 7) (pa_cons (pv 8) (pa_cons (pe_op op_add (pe_op op_add (pe_dget hu (pv 2) (pv 7) (fun _ _ => rfl)) (pe_dget hu (pv 2) (pv 8) (fun _ _ => rfl))) (pe_op op_mul (pv 9) (pe_ifExp (pt_cmpR op_eq (pv 3) pe_str (nomark _)) pe_int (pe_op op_sub pe_int pe_int)))) pa_nil)))))), ?_⟩
  obtain ⟨xs, ht, tX, alA⟩ := da.un
  have tp : t ≠ p := fun z => tX (by rw [z]; exact al.mem)
  have xl := alA.length
  have d1 := da.d1
  have d2 := da.d2
  have fg := farG
  have gg := greatG
  have nmk : ∀ z ∈ ds.map nameOf, nmOk z := fun z hz => by
    obtain ⟨dd, hdd, rfl⟩ := List.mem_map.mp hz
    exact (dial_name_of (da.ok dd hdd).1).1
  refine ⟨_, rfl, by show 5 ≤ sizeLine; decide, fun e he => ?_⟩
  refine .inl ⟨p, c, e, _, _, rfl, pen.same (sameNew he _), by omega, pen.newp he, .inl upd_same, by simp, by simp, fun x H1 hx pen1 sb1' => ?_⟩
  obtain ⟨wo, rfl, hwo⟩ := words5 hx
  have sb1 : Sb p H H1 := (Sb.same (sameNew he _)).trans sb1'
  clear hx sb1' he
  have da1 := da.sb sb1 al.mem
  have ad1 := ad.sb pen sb1
  have al1 := al.sb sb1 pen1
  have ht1 := sb1.to tp ht
  -- either-ors
  refine ⟨_, rfl, rfl, _, rfl, ?_⟩
  have fin : ∀ (H9 : Hp) (a1 a2 : Addr) (z1 so1 z2 so2 : Str) (i1 i2 : Int), Sb p H H9 → PenC H9 p c (n + 20) → H9 a1 = some (.tup [.str z1, .str so1, .int i1]) → a1 ∉ X → z1 ∈ ds.map nameOf → so1 ∈ sorts2 → -(2 * farS) ≤ i1 → i1 ≤ 2 * farS → H9 a2 = some (.tup [.str z2, .str so2, .int i2]) → a2 ∉ X → z2 ∈ ds.map nameOf → so2 ∈ sorts2 → -(2 * farS) ≤ i2 → i2 ≤ 2 * farS → ∀ r, H9 r = none → Q (.ref r) (L2.upd H9 r (.tup [.str "one", .ref a1, .ref a2])) := by
    intro H9 a1 a2 z1 so1 z2 so2 i1 i2 sb9 pen9 h1 x1 m1 s1 b1 b2 h2 x2 m2 s2 b3 b4 r nr
    have sr := sameNew nr (.tup [.str "one", .ref a1, .ref a2])
    have rX := (al.sb sb9 pen9).out nr
    refine k r (.tuple [.str "one", .tuple [.str z1, .str so1, .int i1], .tuple [.str z2, .str so2, .int i2]]) _ ((pen9.same sr).mono (by omega)) (sb9.trans (Sb.same sr)) (.tup (by rw [zn_out rX, upd_same]) (.cons (.str _) (.cons (.tup (by rw [zn_out x1]; exact sr _ _ h1) (.cons (.str _) (.cons (.str _) (.cons (.int _) .nil)))) (.cons (.tup (by rw [zn_out x2]; exact sr _ _ h2) (.cons (.str _) (.cons (.str _) (.cons (.int _) .nil)))) .nil)))) ?_
    exact rule_one (say_g m1 (nmk _ m1) s1 (by omega) (by omega)) (say_g m2 (nmk _ m2) s2 (by omega) (by omega))
  refine ite2 (fun c1 => ?_) (fun c1 => ?_)
  rotate_left
  refine ⟨_, rfl, t, _, rfl, .inr (SqT.of ht1), _, _, rfl, rfl, _, rfl, ?_⟩
  refine ite2 (fun c2 => ?_) (fun c2 => ?_)
  rotate_left
  · -- rules of two dials
    have hw3 : wo ∈ pairs3 := by
      rcases hwo with rfl | h
      · simp at c1
      · exact h
    have l2 : 2 ≤ xs.length := by
      have := c2
      simp only [decide_eq_true_eq] at this
      omega
    refine ⟨_, rfl, _, rfl, t, _, rfl, .inr (SqT.of ht1), p, c, _, _, rfl, pen1, by omega, by omega, by omega, fun kk H2 a1 a2 pen2 sb2 => ?_⟩
    have ht2 := sb2.to tp ht1
    have da2 := da1.sb sb2 al.mem
    have ek : kk = ((kk.toNat : Nat) : Int) := by omega
    have hkx : xs[kk.toNat]? = some xs[kk.toNat] := List.getElem?_eq_getElem (by omega)
    obtain ⟨dk, hdk, trk⟩ := alA.get hkx
    have hdm := da.ok dk (List.mem_of_getElem? hdk)
    obtain ⟨bk, nmk', wayk, lok, hik, upk, dnk, ebk, hbk, q1, q2, q3, _, edk⟩ := dial_tup (trk.same (zn_sb (sb1.trans sb2) al.mem)) hdm.1
    have hbk0 := zn_some hbk
    have bkp : bk ≠ p := fun z => hbk0.1 (by rw [z]; exact al.mem)
    have hsp := span_is hdm.2 edk
    have hnk : nmk' ∈ ds.map nameOf := List.mem_map.mpr ⟨dk, List.mem_of_getElem? hdk, by rw [edk]; rfl⟩
    have ixk : atI xs kk = some (.ref bk) := by
      rw [ek, ← ebk]
      exact atI_nat hkx
    refine ⟨_, rfl, _, rfl, t, _, _, _, rfl, rfl, SqT.of ht2, ixk, bk, _, _, _, rfl, rfl, SqT.of hbk0.2, (rfl : atI [V.str nmk', V.int lok, V.int hik, V.str wayk, V.int upk, V.int dnk] 0 = some (.str nmk')), ?_⟩
    refine ⟨_, rfl, _, rfl, _, _, rfl, rfl, _, rfl, _, rfl, t, _, rfl, .inr (SqT.of ht2), _, _, rfl, rfl, p, c, _, _, rfl, pen2, by omega, by omega, by omega, fun v H3 a3 a4 pen3 sb3 => ?_⟩
    have ht3 := sb3.to tp ht2
    obtain ⟨o0, o1, o2⟩ := other_ne a1 a2 a3 a4
    generalize hoj : (kk + 1 + v) % ((xs.length : Nat) : Int) = oj at o0 o1 o2
    have eo : oj = ((oj.toNat : Nat) : Int) := by omega
    have hox : xs[oj.toNat]? = some xs[oj.toNat] := List.getElem?_eq_getElem (by omega)
    obtain ⟨dj, hdj, trj⟩ := alA.get hox
    obtain ⟨bj, nmj, wayj, loj, hij, upj, dnj, ebj, hbj, _, _, _, _, edj⟩ := dial_tup (trj.same (zn_sb (sb1.trans (sb2.trans sb3)) al.mem)) (da.ok dj (List.mem_of_getElem? hdj)).1
    have hbj0 := zn_some hbj
    have hnj : nmj ∈ ds.map nameOf := List.mem_map.mpr ⟨dj, List.mem_of_getElem? hdj, by rw [edj]; rfl⟩
    have ixj : atI xs oj = some (.ref bj) := by
      rw [eo, ← ebj]
      exact atI_nat hox
    have ne : nmk' ≠ nmj := by
      have q := nd_at nd hdk hdj (fun z => o2 (by omega))
      rw [edk, edj] at q
      exact q
    refine ⟨_, _, rfl, rfl, _, rfl, t, _, rfl, .inr (SqT.of ht3), _, _, rfl, rfl, (by show (0 : Int) < ((xs.length : Nat) : Int); omega), t, _, _, _, rfl, rfl, SqT.of ht3, (by rw [hoj]; exact ixj), bj, _, _, _, rfl, rfl, SqT.of hbj0.2, (rfl : atI [V.str nmj, V.int loj, V.int hij, V.str wayj, V.int upj, V.int dnj] 0 = some (.str nmj)), ?_⟩
    refine ⟨_, _, rfl, ?_⟩
    have hbk3 := sb3.to bkp hbk0.2
    -- slack
    refine ⟨_, rfl, _, rfl, _, rfl, _, rfl, t, _, _, _, rfl, rfl, SqT.of ht3, ixk, bk, _, _, _, rfl, rfl, SqT.of hbk3, (rfl : atI [V.str nmk', V.int lok, V.int hik, V.str wayk, V.int upk, V.int dnk] 2 = some (.int hik)), _, rfl, _, rfl, t, _, _, _, rfl, rfl, SqT.of ht3, ixk, bk, _, _, _, rfl, rfl, SqT.of hbk3, (rfl : atI [V.str nmk', V.int lok, V.int hik, V.str wayk, V.int upk, V.int dnk] 1 = some (.int lok)), _, _, rfl, rfl, _, _, rfl, rfl, p, c, _, _, rfl, pen3, by omega, by omega, by omega, fun w1 H4 a5 a6 pen4 sb4 => ?_⟩
    refine ⟨by show 6 ≤ sizeLine; decide, fun e he => ?_⟩
    refine .inl ⟨p, c, e, _, _, rfl, pen4.same (sameNew he _), by omega, pen4.newp he, .inl upd_same, by simp, by simp, fun x H5 hx pen5 sb5 => ?_⟩
    obtain ⟨sl, rfl, sl1, sl2⟩ : ∃ sl : Int, x = .int sl ∧ 0 ≤ sl ∧ sl ≤ 1000000000000000000 := by
      simp only [List.mem_cons, List.not_mem_nil, or_false] at hx
      rcases hx with rfl | rfl | rfl | rfl | rfl | rfl <;> exact ⟨_, rfl, by omega, by omega⟩
    have sb5' : Sb p H H5 := sb1.trans (sb2.trans (sb3.trans (sb4.trans ((Sb.same (sameNew he _)).trans sb5))))
    have ad5 := ad.sb pen sb5'
    obtain ⟨dg1, f1, f2⟩ := ad5.look hnk
    obtain ⟨dg2, f3, f4⟩ := ad5.look hnj
    have al5 := al.sb sb5' pen5
    have fin2 : ∀ (i : Int), -greatS ≤ i → i ≤ greatS → ∀ r, H5 r = none → Q (.ref r) (L2.upd H5 r (.tup [.str wo, .str nmk', .str nmj, .int i])) := by
      intro i b1 b2 r nr
      have sr := sameNew nr (.tup [.str wo, .str nmk', .str nmj, .int i])
      have rX := al5.out nr
      exact k r (.tuple [.str wo, .str nmk', .str nmj, .int i]) _ ((pen5.same sr).mono (by omega)) (sb5'.trans (Sb.same sr)) (.tup (by rw [zn_out rX, upd_same]) (.cons (.str _) (.cons (.str _) (.cons (.str _) (.cons (.int _) .nil))))) (rule_pair hw3 hnk hnj ne (nmk _ hnk) (nmk _ hnj) b1 b2)
    refine ⟨_, rfl, rfl, _, rfl, ?_⟩
    refine ite2 (fun c3 => ?_) (fun c3 => ?_)
    · exact ⟨_, rfl, _, rfl, _, rfl, _, rfl, _, rfl, d, _, rfl, dg1, _, rfl, _, rfl, d, _, rfl, dg2, _, _, rfl, rfl, _, rfl, _, _, rfl, rfl, by show 4 ≤ sizeLine; decide, fin2 _ (by omega) (by omega)⟩
    · refine ⟨_, rfl, _, rfl, _, rfl, _, rfl, _, rfl, d, _, rfl, dg1, _, rfl, _, rfl, d, _, rfl, dg2, _, _, rfl, rfl, _, rfl, _, rfl, rfl, _, rfl, ?_⟩
      refine ite2 (fun c4 => ?_) (fun c4 => ?_)
      · exact ⟨_, _, rfl, rfl, mulR (by decide) (by decide), _, _, rfl, rfl, by show 4 ≤ sizeLine; decide, fin2 _ (by omega) (by omega)⟩
      · exact ⟨_, _, rfl, rfl, _, _, rfl, rfl, mulR (by decide) (by decide), _, _, rfl, rfl, by show 4 ≤ sizeLine; decide, fin2 _ (by omega) (by omega)⟩
  all_goals
    refine ⟨_, rfl, _, rfl, _, rfl, p, c, t, d, X, _, wd, ds, es, rfl, wd1, wd2, pen1, al1, by omega, da1, ad1, fun s1 z1 so1 i1 H2 pen2 sb2 hs1 x1 m1 so1' b1 b2 => ?_⟩
    have s1p : s1 ≠ p := fun z => x1 (by rw [z]; exact al.mem)
    have al2 := al1.sb sb2 pen2
    refine ⟨_, rfl, _, rfl, _, rfl, p, c, t, d, X, _, wd, ds, es, rfl, wd1, wd2, pen2, al2, by omega, da1.sb sb2 al.mem, ad1.sb pen1 sb2, fun s2 z2 so2 i2 H3 pen3 sb3 hs2 x2 m2 so2' b3 b4 => ?_⟩
    have hs1' := sb3.to s1p hs1
    have ad3 := (ad1.sb pen1 sb2).sb pen2 sb3
    have sb3' : Sb p H H3 := sb1.trans (sb2.trans sb3)
    refine ⟨_, _, rfl, ?_⟩
    have g1 : sayingD (es.map (·.1)) (.tuple [.str z1, .str so1, .int i1]) = true := by rw [ad.keys]; exact say_of m1 so1' (by omega) (by omega)
    have g2 : sayingD (es.map (·.1)) (.tuple [.str z2, .str so2, .int i2]) = true := by rw [ad.keys]; exact say_of m2 so2' (by omega) (by omega)
    refine ⟨_, rfl, _, rfl, .ref s1, d, es, _, rfl, .tup hs1' (.cons (.str _) (.cons (.str _) (.cons (.int _) .nil))), g1, ad3.at_, _, rfl, ?_⟩
    refine ite2 (fun c5 => ?_) (fun c5 => ?_)
    · refine ⟨_, rfl, _, rfl, .ref s2, d, es, _, rfl, .tup hs2 (.cons (.str _) (.cons (.str _) (.cons (.int _) .nil))), g2, ad3.at_, _, rfl, ?_⟩
      refine ite2 (fun c6 => ?_) (fun c6 => ?_)
      · have j0 : atI [V.str z1, V.str so1, V.int i1] 0 = some (.str z1) := rfl
        have j1 : atI [V.str z1, V.str so1, V.int i1] 1 = some (.str so1) := rfl
        have j2 : atI [V.str z1, V.str so1, V.int i1] 2 = some (.int i1) := rfl
        refine ⟨_, rfl, s1, _, _, _, rfl, rfl, SqT.of hs1', j0, _, rfl, s1, _, _, _, rfl, rfl, SqT.of hs1', j1, rfl, _, rfl, ?_⟩
        have s2p : s2 ≠ p := fun z => x2 (by rw [z]; exact al.mem)
        refine ite2 (fun c7 => ?_) (fun c7 => ?_)
        · refine ⟨_, rfl, s1, _, _, _, rfl, rfl, SqT.of hs1', j2, by show 3 ≤ sizeLine; decide, fun s3 ns3 => ?_⟩
          have st := sameNew ns3 (.tup [.str z1, .str "least", .int i1])
          refine ⟨_, rfl, _, rfl, by show 3 ≤ sizeLine; decide, fin _ s3 s2 z1 "least" z2 so2 i1 i2 (sb3'.trans (Sb.same st)) ((pen3.same st).mono (by omega)) upd_same ((al2.sb sb3 pen3).out ns3) m1 (by decide +kernel) b1 b2 (st _ _ hs2) x2 m2 so2' b3 b4⟩
        · refine ⟨_, rfl, s1, _, _, _, rfl, rfl, SqT.of hs1', j2, by show 3 ≤ sizeLine; decide, fun s3 ns3 => ?_⟩
          have st := sameNew ns3 (.tup [.str z1, .str "most", .int i1])
          refine ⟨_, rfl, _, rfl, by show 3 ≤ sizeLine; decide, fin _ s3 s2 z1 "most" z2 so2 i1 i2 (sb3'.trans (Sb.same st)) ((pen3.same st).mono (by omega)) upd_same ((al2.sb sb3 pen3).out ns3) m1 (by decide +kernel) b1 b2 (st _ _ hs2) x2 m2 so2' b3 b4⟩
      · exact ⟨_, rfl, _, rfl, by show 3 ≤ sizeLine; decide, fin _ s1 s2 z1 so1 z2 so2 i1 i2 sb3' (pen3.mono (by omega)) hs1' x1 m1 so1' b1 b2 hs2 x2 m2 so2' b3 b4⟩
    · exact ⟨_, rfl, _, rfl, by show 3 ≤ sizeLine; decide, fin _ s1 s2 z1 so1 z2 so2 i1 i2 sb3' (pen3.mono (by omega)) hs1' x1 m1 so1' b1 b2 hs2 x2 m2 so2' b3 b4⟩
end
end Pk
/-! The law's own: house. -/
namespace Pk
open PySem L2
def spHouseW : Sp := fun vs H Q _ => ∃ (p c : Addr) (X : List Addr) (n wd rl : Int) (m : Nat), vs = [.ref p, .int (m : Nat), .int wd, .int rl] ∧ 0 ≤ wd ∧ wd ≤ 1000000000000000000 ∧ PenC H p c n ∧ Al p X H ∧ n ≤ 100000000 ∧ 1 ≤ m ∧ m ≤ 12 ∧ 0 ≤ rl ∧ rl ≤ 40 ∧
  ∀ (t h y : Addr) (ds rs : List PyData) (is : List Int) (H' : Hp), PenC H' p c (n + 3000) → Sb p H H' → H' t = some (.tup [.ref h, .ref y]) → t ≠ p → Tr (zn X H') (.ref h) (.tuple [.tuple ds, .tuple rs]) → H' y = some (.tup (is.map V.int)) → y ∉ X → is.length = ds.length → (∀ j ∈ is, -farS ≤ j ∧ j ≤ farS) → HouseG ds rs → (∀ d ∈ ds, spanLe wd d) → (∀ p ∈ ds.zip is, inSpan p.1 p.2) → Q (.ref t) H'
abbrev nHouseW : List Str := ["_law_pen_here", "_law_many", "_law_wide", "_law_rules", "_law_dials_here", "_law_numbers_here", "_law_at", "_law_found", "_law_k", "_law_rule_here"]
section
variable {P : Program} {w : World} {K : PySem.W.Frag} {mg : Str → Option Value} {base : Heap}
theorem scHouseW : FnScope nHouseW ["_law_pen_here", "_law_many", "_law_wide", "_law_rules"] (defScope sHouseL) := ⟨rfl, rfl, rfl, by decide +kernel, rfl, by decide +kernel, by decide +kernel⟩
set_option maxHeartbeats 2000000 in
theorem ok_houseW {f g3 g4 g6 : Addr} {fd gd3 gd4 gd6 : FuncData} (F : Fun K "_law_house" "_law_house" sHouseL f fd)
    (G3 : FnOk P w K mg base CX0 4 g3 gd3 ["_law_pen_here", "_law_many", "_law_wide"] spDials) (bG3 : Binds K gd3 ["_law_pen_here", "_law_many", "_law_wide"] []) (kG3 : PySem.W.keepIn K (.ref g3) = true) (mG3 : mg "_law_dials" = some (.ref g3))
    (G4 : FnOk P w K mg base CX0 3 g4 gd4 ["_law_pen_here", "_law_dials_here"] spLNums) (bG4 : Binds K gd4 ["_law_pen_here", "_law_dials_here"] []) (kG4 : PySem.W.keepIn K (.ref g4) = true) (mG4 : mg "_law_numbers" = some (.ref g4))
    (G6 : FnOk P w K mg base CX0 4 g6 gd6 ["_law_pen_here", "_law_dials_here", "_law_at"] spRuleW) (bG6 : Binds K gd6 ["_law_pen_here", "_law_dials_here", "_law_at"] []) (kG6 : PySem.W.keepIn K (.ref g6) = true) (mG6 : mg "_law_rule" = some (.ref g6)) (B : Blt mg) :
    FnOk P w K mg base CX0 5 f fd ["_law_pen_here", "_law_many", "_law_wide", "_law_rules"] spHouseW := by
  refine F.ok scHouseW (fun vs H Q E h => ?_) (fun cdv A outer s H vs Q E hr h => ?_)
  · obtain ⟨p, c, X, n, wd, rl, m, rfl, _⟩ := h
    rfl
  obtain ⟨p, c, X, n, wd, rl, m, rfl, wd1, wd2, pen, al, hn, m1, m2, r1, r2, k⟩ := h
  have hu65 : (A.deeper (PyProof.Rows.envOfC "_law_house" (defScope sHouseL) s.heap.objs.size f cdv)).units + 65 < cLine := by
    have := hr.un
    omega
  have hr3 : Room 3 _ := hr.mono (by decide)
  refine ⟨_, pss_cons (ps_set (i := 4) scHouseW.nd rfl (.inr rfl) (pe_call G3 hr rfl mG3 kG3 bG3 .nil pass0 (pa_cons (pv 0) (pa_cons (pv 1) (pa_cons (pv 2) pa_nil))))) <|
    pss_cons (ps_set (i := 5) scHouseW.nd rfl (.inr rfl) (pe_call G4 hr3 rfl mG4 kG4 bG4 .nil pass0 (pa_cons (pv 0) (pa_cons (pv 4) pa_nil)))) <|
    pss_cons (ps_par (i := 6) (j := 7) (by rfl) scHouseW.nd rfl rfl (by decide) rfl rfl (pa_cons (pe_callTy (call_dictP rfl) (by rfl) B.dict (by decide +kernel) (pa_cons (pe_lc (own := [("_law_k", 8)]) (g := gName 8) (by rfl) scHouseW.nd (pi_range1 (by rfl) B.range (pa_cons (pe_callB call_len_seq (by rfl) B.len PySem.boot_len (pa_cons (pv 4) pa_nil)) pa_nil)) (blkOk_by (N := nHouseW) (sc := defScope sHouseL) (by decide +kernel)) (fun _ _ _ _ _ => pg_name (i := 8) scHouseW.nd rfl (Or.inl rfl)) (fun _ _ _ _ _ => pts_nil) (fun _ _ _ _ _ => pe_tup (pa_cons (pe_ix (r := rIxT K) ix_tup (pe_ix (r := rIxT K) ix_tup (pv 4) (pv 8) (fun _ _ => rfl)) pe_int (fun _ _ => rfl)) (pa_cons (pe_ix (r := rIxT K) ix_tup (pv 5) (pv 8) (fun _ _ => rfl)) pa_nil)))) pa_nil)) (pa_cons (pe_lst pa_nil) pa_nil)) (by rfl)) <|
    pss_cons (ps_for PassesOwn.never rfl (pi_range1 rfl B.range (pa_cons (pv 3) pa_nil)) (pg_name (i := 8) scHouseW.nd rfl (.inl rfl))
      (pss_cons (ps_set (i := 9) scHouseW.nd rfl (.inl rfl) (pe_call G6 hr rfl mG6 kG6 bG6 .nil pass0 (pa_cons (pv 0) (pa_cons (pv 4) (pa_cons (pv 6) pa_nil)))))
      (pss_one (ps_if (pt_cmpR (op_notInD hu65) (pv 9) (pv 7) (by rfl)) (pss_one (ps_expr (pe_bm PySem.F.plainAttrs_list PySem.F.slot_list_append PySem.F.type_list_append mt_append (pv 7) (pa_cons (pv 9) pa_nil)))) pss_nil)))) <|
    pss_one (ps_ret (pe_tup (pa_cons (pe_tup (pa_cons (pv 4) (pa_cons (pe_callTy call_tuple_of (by rfl) B.tuple (by decide +kernel) (pa_cons (pv 7) pa_nil)) pa_nil))) (pa_cons (pv 5) pa_nil)))), ?_⟩
  have fg := farG
  refine ⟨_, rfl, _, rfl, _, rfl, p, c, X, n, wd, m, rfl, wd1, wd2, pen, al, by omega, m1, m2, fun dt ds H1 pen1 sb1 tr1 dl1 dl2 dok nd srt => ?_⟩
  have al1 := al.sb sb1 pen1
  have da1 : DialsAt X H1 dt wd ds := ⟨tr1, dl1, by omega, dok⟩
  refine ⟨_, rfl, _, rfl, p, c, dt, X, _, wd, ds, rfl, wd1, wd2, pen1, al1, by omega, da1, fun y is H2 pen2 sb2 hy yX il ib isp => ?_⟩
  have al2 := al1.sb sb2 pen2
  have da2 := da1.sb sb2 al.mem
  obtain ⟨xs, hdt, dtX, alA⟩ := da2.un
  have dtp : dt ≠ p := fun z => dtX (by rw [z]; exact al.mem)
  have yp : y ≠ p := fun z => yX (by rw [z]; exact al.mem)
  have xl := alA.length
  have sb2' := sb1.trans sb2
  -- the numbers by names
  refine ⟨_, rfl, dt, _, rfl, .inr (SqT.of hdt), _, rfl, by omega, by omega, fun D3 hD3 => ?_⟩
  rw [Int.toNat_natCast]
  refine lc_range (lo := 0) (n := xs.length) (fun i H5 => ∃ (ps : List Addr) (es : List (Str × Int)), H5 D3 = some (.lst (ps.map V.ref)) ∧ Paired (fun q e => H5 q = some (.tup [.str e.1, .int e.2])) ps es ∧ es.length = i ∧ (∀ e ∈ es, -farS ≤ e.2 ∧ e.2 ≤ farS) ∧ es.map (·.1) = (ds.map nameOf).take i ∧ Same H2 H5)
    ⟨[], [], upd_same, .nil, rfl, fun _ h => absurd h (by simp), rfl, sameNew hD3 _⟩ ?_ ?_
  · rintro i H5 hi ⟨ps, es, g1, g2, g3, g4, g4n, s5⟩
    rw [Int.zero_add]
    have hx : xs[i]? = some xs[i] := List.getElem?_eq_getElem (by omega)
    have hj : is[i]? = some is[i] := List.getElem?_eq_getElem (by omega)
    obtain ⟨d, hd, trd⟩ := alA.get hx
    obtain ⟨b, nm, way, lo, hi', up, dn, eb, hb, _, _, _, _, ed⟩ := dial_tup (trd.same zn_le) (dok d (List.mem_of_getElem? hd)).1
    have ixd : atI xs ((i : Nat) : Int) = some (.ref b) := by rw [← eb]; exact atI_nat hx
    have hz : (ds.map nameOf)[i]? = some nm := by rw [List.getElem?_map, hd, ed]; rfl
    have pl := g2.length
    refine ⟨rfl, _, rfl, _, rfl, dt, _, _, _, rfl, rfl, SqT.of (s5 _ _ hdt), ixd, b, _, _, _, rfl, rfl, SqT.of (s5 _ _ hb), (rfl : atI [V.str nm, V.int lo, V.int hi', V.str way, V.int up, V.int dn] 0 = some (.str nm)), _, rfl, _, rfl, y, _, _, _, rfl, rfl, SqT.of (s5 _ _ hy), atInt hj, by show 2 ≤ sizeLine; decide, fun t ht => ?_⟩
    have st := sameNew ht (.tup [.str nm, .int is[i]])
    have tD : t ≠ D3 := fun z => by rw [z, g1] at ht; cases ht
    refine ⟨_, st _ _ g1, small1000 (by rw [List.length_map]; omega), ps ++ [t], es ++ [(nm, is[i])], by rw [upd_same, List.map_append]; rfl, .snoc (L2.Paired.mapP g2 fun q e h => ?_) ?_, by simp [g3], fun e he => ?_, by rw [List.map_append, g4n, take_more hz]; rfl, fun b o e => ?_⟩
    · have qD : q ≠ D3 := ne_of h g1 (by intro z; cases z)
      rw [upd_ne qD]
      exact st _ _ h
    · rw [upd_ne tD, upd_same]
    · rcases List.mem_append.mp he with he | he
      · exact g4 e he
      · rw [List.mem_singleton.mp he]
        exact ib _ (List.mem_of_getElem? hj)
    · rw [upd_ne (ne_of_none e hD3)]
      exact st _ _ (s5 _ _ e)
  rintro H5 ⟨ps, es, g1, g2, g3, g4, g4n, s5⟩
  refine ⟨D3, ps, es.map kvOf, rfl, SqL.of g1, pairedMap g2 fun q e h => SqT.of h, fun dd ndd => ?_⟩
  have eks : es.map (·.1) = ds.map nameOf := by rw [g4n, List.take_of_length_le (by rw [List.length_map]; omega)]
  have em : mergeK [] (es.map kvOf) = es.map kvOf := merge_nd es [] (by rw [List.nil_append, eks]; exact nd)
  rw [em]
  have sd := s5.trans (sameNew ndd (.dK (es.map kvOf)))
  refine ⟨by show 0 ≤ sizeLine; decide, fun L nL => ?_⟩
  have sL := sd.trans (sameNew nL (.lst []))
  have ad6 : AtD (L2.upd (L2.upd H5 dd (.dK (es.map kvOf))) L (.lst [])) dd ds es := ⟨sameNew nL (.lst []) _ _ upd_same, eks, g4⟩
  have pen6 := pen2.same sL
  have hL6 : L2.upd (L2.upd H5 dd (.dK (es.map kvOf))) L (.lst []) L = some (.lst []) := upd_same
  have nL2 : H2 L = none := sd.free nL
  have Lp := pen2.newp nL2
  have Lc := pen2.newc nL2
  have nLH : H L = none := sb2'.free Lp nL2
  have al6 := al2.same sL
  have da6 : DialsAt (L :: X) _ dt wd ds := ⟨da2.tr.same ((zn_fresh nL2).trans (zn_mono sL)), da2.d1, da2.d2, da2.ok⟩
  have sb6 := sb2'.trans (Sb.same sL)
  have hy6 := sL _ _ hy
  have hdt6 := sL _ _ hdt
  generalize L2.upd (L2.upd H5 dd (.dK (es.map kvOf))) L (.lst []) = H6 at pen6 hL6 al6 da6 sb6 hy6 ad6 hdt6
  clear sL sd s5 g1 g2 g4 g4n ndd nL nL2 em hD3
  have dtL : dt ≠ L := ne_of hdt6 hL6 (by intro z; cases z)
  have yL : y ≠ L := ne_of hy6 hL6 (by intro z; cases z)
  have ddL : dd ≠ L := ne_of ad6.at_ hL6 (by intro z; cases z)
  have ddp : dd ≠ p := ad6.ne pen6
  refine ⟨_, _, rfl, ?_⟩
  -- the rules
  refine ⟨_, rfl, _, rfl, by omega, by omega, ?_⟩
  refine for_range (n := rl.toNat) (fun i σ H8 => ∃ (v8 v9 : Option V) (ys : List V) (rs : List PyData), σ = [some (.ref p), some (.int (m : Nat)), some (.int wd), some (.int rl), some (.ref dt), some (.ref y), some (.ref dd), some (.ref L), v8, v9] ∧ H8 L = some (.lst ys) ∧ TrAll (zn (L :: X) H8) ys rs ∧ rs.length ≤ i ∧ (∀ r ∈ rs, RuleG (ds.map nameOf) r) ∧ fRule (ds.map nameOf) 0 [] rs = none ∧ PenC H8 p c (n + 230 + 30 * i) ∧ ∀ b o, b ≠ p → b ≠ L → H6 b = some o → H8 b = some o)
    ⟨none, none, [], [], rfl, hL6, .nil, Nat.le_refl _, fun _ h => absurd h (by simp), rfl, pen6.mono (by omega), fun _ _ _ _ e => e⟩ ?_ ?_
  · rintro i σ H8 hi ⟨v8, v9, ys, rs, rfl, e1, f2', e3, e5, e6', pen8, fr⟩
    have al8 : Al p (L :: X) H8 := ⟨List.mem_cons_of_mem _ al.mem, fun b hb => by
      by_cases bp : b = p
      · rw [bp]
        obtain ⟨kv, h⟩ := pen8.atp
        exact ⟨_, h⟩
      · by_cases bL : b = L
        · rw [bL]
          exact ⟨_, e1⟩
        · obtain ⟨o, ho⟩ := al6.alc b ((List.mem_cons.mp hb).resolve_left bL)
          exact ⟨o, fr b o bp bL ho⟩⟩
    have zz : Same (zn (L :: X) H6) (zn (L :: X) H8) := fun b o e => by
      obtain ⟨h1, h2⟩ := zn_some e
      rw [zn_out h1]
      exact fr b o (fun z => h1 (by rw [z]; exact List.mem_cons_of_mem _ al.mem)) (fun z => h1 (by rw [z]; exact List.mem_cons_self)) h2
    refine ⟨_, rfl, _, rfl, _, rfl, p, c, dt, dd, L :: X, _, wd, ds, es, rfl, wd1, wd2, pen8, al8, by omega, da6.same zz, nd, ad6.to (fr _ _ ddp ddL ad6.at_), fun t r H10 pen10 sbA tr rg => ?_⟩
    have hL10 := sbA.to Lp e1
    have f3' := f2'.same (zn_sb sbA al8.mem)
    have rl' := f3'.length
    have fr10 : ∀ b o, b ≠ p → b ≠ L → H6 b = some o → H10 b = some o := fun b o h1 h2 e => sbA.to h1 (fr b o h1 h2 e)
    have wl : (PyData.list rs).canLay0 = true := by simpa only [PyData.canLay0] using lay_all fun d hd => (e5 d hd).lay
    refine ⟨_, rfl, _, rfl, r, rs, (tr.same zn_le).dp (noDict_of rg.lay), Tr.dp (.lst hL10 (f3'.same zn_le)) (noDict_of wl), shaped_of rg.lay (by have := rg.depth; omega), shaped_of wl (by
      have := depth_all (n := 2) fun d hd => (e5 d hd).depth
      simp only [PyData.depth]
      omega), _, rfl, ?_⟩
    refine ite2 (fun c7 => ?_) (fun _ => ?_)
    · refine ⟨_, rfl, .inl ⟨rfl, _, SqL.of hL10⟩, _, rfl, L, _, _, rfl, rfl, hL10, small1000 (by omega), ?_⟩
      refine ⟨_, _, ys ++ [.ref t], rs ++ [r], rfl, upd_same, (f3'.snoc tr).same (zn_upd List.mem_cons_self), by simp; omega, fun d hd => ?_, fr_snoc rg.rule e6' (by simpa using c7), (pen10.upd Lp Lc _).mono (by omega), fun b o h1 h2 e => by rw [upd_ne h2]; exact fr10 b o h1 h2 e⟩
      rcases List.mem_append.mp hd with hd | hd
      · exact e5 d hd
      · rw [List.mem_singleton.mp hd]
        exact rg
    · exact ⟨_, _, ys, rs, rfl, hL10, f3', by omega, e5, e6', pen10.mono (by omega), fr10⟩
  rintro σ H8 ⟨v8, v9, ys, rs, rfl, e1, f2', e3, e5, e6', pen8, fr⟩
  have zz : Same (zn (L :: X) H6) (zn (L :: X) H8) := fun b o e => by
    obtain ⟨h1, h2⟩ := zn_some e
    rw [zn_out h1]
    exact fr b o (fun z => h1 (by rw [z]; exact List.mem_cons_of_mem _ al.mem)) (fun z => h1 (by rw [z]; exact List.mem_cons_self)) h2
  have trd : Tr (zn X H8) (.ref dt) (.tuple ds) := (da6.tr.same zz).same zn_drop
  have hy8 := fr _ _ yp yL hy6
  have f2' := f2'.same zn_drop
  have sb8 : Sb p H H8 := .of fun b o hb e => fr b o hb (ne_of_none e nLH) (sb6.to hb e)
  have al8 := al.sb sb8 pen8
  refine ⟨_, rfl, _, rfl, L, _, rfl, .inl ⟨SqL.of e1, fun t2 n2 => ?_⟩⟩
  have s2 := sameNew n2 (.tup ys)
  refine ⟨by show 2 ≤ sizeLine; decide, fun th nth => ?_⟩
  have s3 := sameNew nth (.tup [.ref dt, .ref t2])
  refine ⟨_, rfl, by show 2 ≤ sizeLine; decide, fun t nt => ?_⟩
  have s5 := sameNew nt (.tup [.ref th, .ref y])
  have sA := s2.trans (s3.trans s5)
  have x2 := al8.out n2
  have x3 := (al8.same s2).out nth
  have q2 := s5 _ _ (s3 _ _ (upd_same (H := H8) (a := t2) (o := .tup ys)))
  have q3 := s5 _ _ (upd_same (H := L2.upd H8 t2 (.tup ys)) (a := th) (o := .tup [.ref dt, .ref t2]))
  refine k t th y ds rs is _ ((pen8.same sA).mono (by omega)) (sb8.trans (Sb.same sA)) upd_same (((pen8.same s2).same s3).newp nt) (.tup (by rw [zn_out x3]; exact q3) (.cons (trd.same (zn_mono sA)) (.cons (.tup (by rw [zn_out x2]; exact q2) (f2'.same (zn_mono sA))) .nil))) (sA _ _ hy8) yX il ib ⟨dl1, by omega, by omega, fun d hd => (dok d hd).1, e5, nd, fd_none (fun d hd => dial_ok (dok d hd).1) srt nd, e6'⟩ (fun d hd => (dok d hd).2) isp
end
end Pk
section
set_option maxHeartbeats 1000000
/-! The keys of a dict of the module; figures; what is never come to. -/
namespace Pk
open PySem PySem.Spec PyProof.Rows L2 GxR
/-- at d: a written dict of the module with these keys, in their order -/
structure KKeys (K : PySem.W.Frag) (d : Addr) (zs : List Str) : Prop where
  low : (d == sysModules) = false
  at_ : ∃ (es : Array DictEntry) (n : Nat), K.lookup d = some ⟨.type "dict", none, .dict es n, #[]⟩ ∧ es.size = zs.length ∧ ∀ (i : Nat) (z : Str), zs[i]? = some z → ∃ (e : DictEntry) (t : Tok), es[i]? = some e ∧ e.key = .str z t
def Itkk (zs : List Str) : It := ⟨fun i _ => i < zs.length, fun i H x H' => H' = H ∧ ∃ z, zs[i]? = some z ∧ x = .str z, fun i _ => zs.length ≤ i⟩
def iKKeys (K : PySem.W.Frag) (td : TE) : TI := fun σ H R => td σ H fun x H1 => ∃ (d : Addr) (zs : List Str), x = .ref d ∧ KKeys K d zs ∧ R (Itkk zs) H1
theorem turn_kk {P : Program} {w : World} {K : PySem.W.Frag} {tg : Expr} {d : Addr} {zs : List Str} {es : Array DictEntry} {ep : Nat} (it : Addr) (hl : K.lookup d = some ⟨.type "dict", none, .dict es ep, #[]⟩) (hz : es.size = zs.length) (hk : ∀ (i : Nat) (z : Str), zs[i]? = some z → ∃ (e : DictEntry) (t : Tok), es[i]? = some e ∧ e.key = .str z t) :
    Turn P w K tg (Itkk zs) [it] it (fun i h => h.IsKeyIter it d i zs.length ep) where
  mem := List.mem_singleton.mpr rfl
  obj := fun i h st b hb => by
    obtain rfl := List.mem_singleton.mp hb
    obtain ⟨oi, e, c, q⟩ := st
    exact ⟨oi, e, fun v z => by rw [q] at z; cases z⟩
  keep := fun i h h' st k => st.at fun oi e => k it (List.mem_singleton.mpr rfl) oi e
  item := by
    intro X hP hw hK hc i pins s σ H E I hf st hi
    subst hP hw hK
    obtain ⟨f0, f1, f2, f3, f4, f5⟩ := hf it (List.mem_singleton.mpr rfl)
    obtain ⟨en, t, hen, key⟩ := hk i zs[i] (List.getElem?_eq_getElem hi)
    refine next_key_item st (I.kIn _ _ hl) rfl hz hen fun h' st' sb => ?_
    have J : Inv X pins σ H { s with heap := h' } := I.turned (t' := s.toks) (fun b ob hb e => (sb.2 b hb).trans e) f0 f1 f3 f4 f5
    obtain ⟨oi, e, c, q⟩ := id st'
    exact ⟨en.key, rfl, go_of (s := { s with heap := h' }) e c q (by decide +kernel) ⟨.str zs[i], H, J, by rw [key]; exact ⟨t, rfl⟩, ⟨rfl, _, List.getElem?_eq_getElem hi, rfl⟩, st', fun b hb => (hf b hb).1⟩⟩
  done := by
    intro X hP hw hK hc i pins s σ H E I hf st hi
    subst hP hw hK
    obtain ⟨f0, f1, f2, f3, f4, f5⟩ := hf it (List.mem_singleton.mpr rfl)
    exact next_key_end (I.ok.hd hc) st (I.kIn _ _ hl) rfl hz hi fun h' eb => ⟨rfl, I.turned (t' := s.toks) (fun b ob hb e => eb b ob hb e) f0 f1 f3 f4 f5⟩
  self := fun A i s Q E st h => wpAny_pyIter_keyiter st h
theorem pi_kkeys {X : Cx} {tg e : Expr} {td : TE} (he : PE X e td) : PI X tg e (iKKeys X.K td) := by
  refine ⟨fun pins s σ H R I h => thn (he.run pins s σ H _ I h) fun u s1 ⟨x, H1, I1, rx, d, zs, ex, kk, q⟩ => ?_⟩
  subst ex
  obtain rfl : u = Value.ref d := rx
  obtain ⟨es, n, hl, hz, hk⟩ := kk.at_
  refine iter_keys kk.low (I1.kIn _ _ hl) ⟨rfl, rfl, rfl⟩ rfl (pi_one (tk := s1.toks) I1 _ (turn_kk _ hl hz hk) ⟨_, Heap.get?_push_size _ rfl, rfl, ?_⟩ q)
  rw [hz] <;> rfl
/-- '0' <= sign <= '9' -/
def figC (c : Nat) : Bool := decide (48 ≤ c) && decide (c ≤ 57)
theorem elt_09 {prog : Program} {w : World} {scope : Scope} {x : Str} {j1 j2 : Nat} {p1 p2 p3 p4 : Pos} (hk : scope.kind = .function) (hl : scope.names.lookup x = some .local) (hd : (x == ("__debug__" : Str)) = false := by decide) :
    EltP prog w scope x (.Compare (.Constant (.str "0") j1 p1) [.LtE, .LtE] [.Name x p2, .Constant (.str "9") j2 p3] p4) figC := by
  intro cenv A' E' c t sz m hs hn hm
  have e1 : (!decide ((⟨#[c]⟩ : Str).cps.toList < ("0" : Str).cps.toList)) = decide (48 ≤ c) := by
    show (!decide ([c] < [48])) = decide (48 ≤ c)
    rw [lt1]
    by_cases h : c < 48
    · rw [decide_eq_true h, decide_eq_false (by omega)]; rfl
    · rw [decide_eq_false h, decide_eq_true (by omega)]; rfl
  have e2 : (!decide (("9" : Str).cps.toList < (⟨#[c]⟩ : Str).cps.toList)) = decide (c ≤ 57) := by
    show (!decide ([57] < [c])) = decide (c ≤ 57)
    rw [lt1]
    by_cases h : 57 < c
    · rw [decide_eq_true h, decide_eq_false (by omega)]; rfl
    · rw [decide_eq_false h, decide_eq_true (by omega)]; rfl
  refine Compare_chain (Calls.Constant_str (chain_link (wpAny_Name (wpAny_loadName_local (by rw [hs]; exact hk) (show cenv.scope.names.lookup x = some .local by rw [hs]; exact hl) hn hm ?_) hd))) (by with_unfolding_all rfl)
  refine PySem.P.le_str ?_
  rw [e1]
  refine wpAny_truthy_bool ?_
  cases h1 : decide (48 ≤ c) with
  | false => exact ite_ff ⟨by unfold figC; rw [h1]; rfl, keeps_tok _ _⟩
  | true =>
    refine ite_tt (chain_last (Calls.Constant_str (PySem.P.le_str ?_)))
    rw [e2]
    exact ⟨by unfold figC; rw [h1]; rfl, keeps_tok _ _⟩
end Pk
end
section
set_option maxHeartbeats 1000000
/-! Houses as texts: numbers, words, rows only. -/
namespace Pk
open PySem PySem.Spec PyProof.Rows L2 TL
def numS (i : Int) : Str := Str.ofString (toString i)
def sgnS (so : Str) : Str := if so = "least" then ">=" else "<="
def sayS : PyData → Str
  | .tuple [.str z, .str so, .int i] => z ++ sgnS so ++ numS i
  | _ => ""
def wordsR : PyData → List Str
  | .tuple [.str w, p, q] => [w, sayS p, sayS q]
  | .tuple [.str w, .str a, .str b, .int c] => [w, a, b, numS c]
  | _ => []
def wordsD : PyData → List Str
  | .tuple [.str nm, .int lo, .int hi, .str way, .int up, .int dn] => ["dial", nm, numS lo, numS hi, way, numS up, numS dn]
  | _ => []
def rowS (ws : List Str) : Str := Txt.join " " ws
def rowsH (ds rs : List PyData) : List Str := ds.map (fun d => rowS (wordsD d)) ++ rs.map (fun r => rowS (wordsR r))
def houseS (ds rs : List PyData) : Str := Txt.join "\n" (rowsH ds rs)
theorem num_nat (n : Nat) : tl (numS (n : Int)) = numL n := tl_num n
theorem num_neg (n : Nat) : tl (numS (Int.negSucc n)) = 45 :: numL (n + 1) := by
  have e : toString (Int.negSucc n) = "-" ++ toString (n + 1) := rfl
  show tl (Str.ofString (toString (Int.negSucc n))) = _
  rw [e, tl_ofString, String.toList_append, List.map_append]
  have q := tl_num (n + 1)
  rw [tl_ofString] at q
  show 45 :: (toString (n + 1)).toList.map Char.toNat = _
  exact congrArg (45 :: ·) q
theorem num_signs {i : Int} {c : Nat} (h : c ∈ tl (numS i)) : c = 45 ∨ (48 ≤ c ∧ c ≤ 57) := by
  cases i with
  | ofNat n =>
    have h' : c ∈ numL n := by rw [← num_nat]; exact h
    exact .inr (numL_digits n c h')
  | negSucc n =>
    rw [num_neg] at h
    rcases List.mem_cons.mp h with rfl | h
    · exact .inl rfl
    · exact .inr (numL_digits _ c h)
theorem num_len {i : Int} (h1 : -greatS ≤ i) (h2 : i ≤ greatS) : (numS i).length ≤ 22 := by
  have gg : greatS = 100000000000000000000 := rfl
  rw [len_tl]
  cases i with
  | ofNat n =>
    show (tl (numS (n : Int))).length ≤ 22
    rw [num_nat]
    have h3 : (n : Int) ≤ greatS := h2
    have q := numL_len (n := n) (k := 21) (by decide) (by omega)
    omega
  | negSucc n =>
    rw [num_neg, List.length_cons]
    have q := numL_len (n := n + 1) (k := 21) (by decide) (by omega)
    omega
theorem num_pos {i : Int} : 1 ≤ (numS i).length := by
  rw [len_tl]
  cases i with
  | ofNat n =>
    show 1 ≤ (tl (numS (n : Int))).length
    rw [num_nat]
    have q := numL_ne n
    cases e : numL n with
    | nil => exact absurd e q
    | cons a l => simp
  | negSucc n => rw [num_neg, List.length_cons]; omega
theorem num_back {i : Int} (h1 : -greatS ≤ i) (h2 : i ≤ greatS) : intText? (numS i) = some i := by
  have hl := num_len h1 h2
  cases i with
  | ofNat n =>
    have q : intText? (Str.ofString (toString ((n : Nat) : Int))) = some (n : Int) := int_num (by
      have q := num_nat n
      have q2 := len_tl (numS (n : Int))
      rw [q] at q2
      have hl' : (numS (n : Int)).length ≤ 22 := hl
      omega)
    exact q
  | negSucc n =>
    have q := PySem.intText_neg (num_neg n) (numL_digits _) (numL_ne _) (by omega)
    rw [q, numL_val]
    rfl
/-- a word: no blank, no line end, not long -/
def wordOk (x : Str) : Prop := x.length ≤ 60 ∧ ∀ c ∈ tl x, c ≠ 32 ∧ c ≠ 10
theorem nm_word {z : Str} (h : nmOk z) : wordOk z := by
  refine ⟨by have := h.1; omega, fun c hc => ?_⟩
  have q := h.2 c hc
  simp only [smallC, Bool.and_eq_true, decide_eq_true_eq] at q
  omega
theorem num_word {i : Int} (h1 : -greatS ≤ i) (h2 : i ≤ greatS) : wordOk (numS i) := by
  refine ⟨by have := num_len h1 h2; omega, fun c hc => ?_⟩
  have q := num_signs hc
  omega
theorem sgn_word (so : Str) : (sgnS so).length ≤ 2 ∧ ∀ c ∈ tl (sgnS so), c = 60 ∨ c = 61 ∨ c = 62 := by
  unfold sgnS
  split <;> decide +kernel
theorem len_app (x y : Str) : (x ++ y).length = x.length + y.length := by rw [len_tl, len_tl, len_tl, tl_append, List.length_append]
theorem say_word {z so : Str} {i : Int} (h : nmOk z) (h1 : -greatS ≤ i) (h2 : i ≤ greatS) : wordOk (sayS (.tuple [.str z, .str so, .int i])) := by
  show wordOk (z ++ sgnS so ++ numS i)
  have a := nm_word h
  have b := sgn_word so
  have c := num_word h1 h2
  have d := num_len h1 h2
  have e := h.1
  refine ⟨by rw [len_app, len_app]; omega, fun k hk => ?_⟩
  rw [tl_append, tl_append] at hk
  rcases List.mem_append.mp hk with hk | hk
  · rcases List.mem_append.mp hk with hk | hk
    · exact a.2 k hk
    · have := b.2 k hk
      omega
  · exact c.2 k hk
theorem split_row {ws : List Str} (hne : ws ≠ []) (h : ∀ x ∈ ws, wordOk x) : Txt.split (rowS ws) " " = ws :=
  split_join (y := " ") (s := 32) (S := []) (by decide +kernel) (by decide +kernel) hne fun p hp hm => ((h p hp).2 32 hm).1 rfl
theorem mem_join {y : Str} {c : Nat} : ∀ {ws : List Str}, c ∈ tl (Txt.join y ws) → c ∈ tl y ∨ ∃ x ∈ ws, c ∈ tl x
  | ws, h => by
    rw [join_eq, tl_join] at h
    have go : ∀ ws : List Str, c ∈ joinL (tl y) (ws.map tl) → c ∈ tl y ∨ ∃ x ∈ ws, c ∈ tl x := by
      intro ws
      induction ws with
      | nil => intro h; cases h
      | cons x r ih =>
        intro h
        cases r with
        | nil => exact .inr ⟨x, List.mem_cons_self, h⟩
        | cons z r =>
          have h' : c ∈ tl x ++ (tl y ++ joinL (tl y) ((z :: r).map tl)) := h
          rcases List.mem_append.mp h' with h' | h'
          · exact .inr ⟨x, List.mem_cons_self, h'⟩
          · rcases List.mem_append.mp h' with h' | h'
            · exact .inl h'
            · rcases ih h' with q | ⟨w, hw, q⟩
              · exact .inl q
              · exact .inr ⟨w, List.mem_cons_of_mem _ hw, q⟩
    exact go ws h
theorem row_free {ws : List Str} (h : ∀ x ∈ ws, wordOk x) : 10 ∉ tl (rowS ws) := fun hm => by
  rcases mem_join hm with q | ⟨x, hx, q⟩
  · exact absurd q (by decide +kernel)
  · exact ((h x hx).2 10 q).2 rfl
theorem len_join {y : Str} {n : Nat} : ∀ {ws : List Str}, (∀ x ∈ ws, x.length ≤ n) → (Txt.join y ws).length ≤ ws.length * (n + y.length)
  | ws, h => by
    rw [len_tl, join_eq, tl_join]
    have go : ∀ ws : List Str, (∀ x ∈ ws, x.length ≤ n) → (joinL (tl y) (ws.map tl)).length ≤ ws.length * (n + (tl y).length) := by
      intro ws
      induction ws with
      | nil => intro _; exact Nat.zero_le _
      | cons x r ih =>
        intro h
        have hx : (tl x).length ≤ n := by rw [← len_tl]; exact h x List.mem_cons_self
        cases r with
        | nil =>
          show (tl x).length ≤ _
          rw [List.length_singleton]
          omega
        | cons z r =>
          have q := ih fun w hw => h w (List.mem_cons_of_mem _ hw)
          show (tl x ++ (tl y ++ joinL (tl y) ((z :: r).map tl))).length ≤ _
          rw [List.length_append, List.length_append, List.length_cons, Nat.succ_mul]
          omega
    have q := go ws h
    rw [← len_tl] at q
    exact q
theorem sum_len {n : Nat} : ∀ {ws : List Str}, (∀ x ∈ ws, x.length ≤ n) → (ws.map (·.length)).sum ≤ ws.length * n
  | [], _ => by simp
  | x :: ws, h => by
    have q := sum_len fun w hw => h w (List.mem_cons_of_mem _ hw)
    have r := h x List.mem_cons_self
    rw [List.map_cons, List.sum_cons, List.length_cons, Nat.succ_mul]
    omega
end Pk
end
section
set_option maxHeartbeats 1000000
/-! written_saying, written_rule; the law's own show_saying. -/
namespace Pk
open PySem PySem.Spec PyProof.Rows L2 TL
abbrev sLSay : Stmt := topH 51
structure SignC (K : PySem.W.Frag) (w : World) (mg : Str → Option Value) (S : Addr) : Prop where
  gl : mg "SIGNS" = some (.ref S)
  le : KDct K w S "least" (.str ">=")
  mo : KDct K w S "most" (.str "<=")
  ks : KKeys K S ["least", "most"]
theorem SignC.at {K : PySem.W.Frag} {w : World} {mg : Str → Option Value} {S : Addr} (C : SignC K w mg S) {so : Str} (h : so ∈ sorts2) : KDct K w S so (.str (sgnS so)) := by
  have q : so = "least" ∨ so = "most" := by
    simp only [sorts2, List.mem_cons, List.not_mem_nil, or_false] at h
    exact h
  rcases q with rfl | rfl
  · exact C.le
  · exact C.mo
theorem emp_app (x : Str) : Str.empty ++ x = x := ext_tl (by rw [tl_append]; rfl)
theorem log_n {i : Int} (h1 : -greatS ≤ i) (h2 : i ≤ greatS) : i.natAbs.log2 < 1920 := by
  have gg : greatS = 100000000000000000000 := rfl
  by_cases h0 : i.natAbs = 0
  · rw [h0]; decide
  · have h4 : i.natAbs.log2 < 70 := (Nat.log2_lt h0).mpr (by have : i.natAbs ≤ 100000000000000000000 := by omega
                                                             omega)
    omega
/-- the parts of a rule -/
theorem rule_shape {ds rs : List PyData} (hg : HouseG ds rs) {r : PyData} (hr : r ∈ rs) : (∃ (z1 so1 z2 so2 : Str) (i1 i2 : Int), r = .tuple [.str "one", .tuple [.str z1, .str so1, .int i1], .tuple [.str z2, .str so2, .int i2]] ∧ z1 ∈ ds.map nameOf ∧ z2 ∈ ds.map nameOf ∧ so1 ∈ sorts2 ∧ so2 ∈ sorts2 ∧ (-greatS ≤ i1 ∧ i1 ≤ greatS) ∧ (-greatS ≤ i2 ∧ i2 ≤ greatS)) ∨
    ∃ (w a b : Str) (c : Int), r = .tuple [.str w, .str a, .str b, .int c] ∧ w ∈ pairs3 ∧ a ∈ ds.map nameOf ∧ b ∈ ds.map nameOf ∧ -greatS ≤ c ∧ c ≤ greatS := by
  have h := (hg.rules r hr).rule
  have inn : ∀ {zs : List Str} {d : PyData}, inS zs d = true → ∃ z, d = .str z ∧ z ∈ zs := fun {zs d} q => by
    unfold inS at q
    obtain ⟨z, hz, e⟩ := List.any_eq_true.mp q
    exact ⟨z, strIs_is e, hz⟩
  have who : ∀ {lo hi : Int} {d : PyData}, wholeD lo hi d = true → ∃ i, d = .int i ∧ lo ≤ i ∧ i ≤ hi := fun {lo hi d} q => by
    obtain ⟨i, rfl⟩ := whole_is q
    rw [wholeD_int, Bool.and_eq_true, decide_eq_true_eq, decide_eq_true_eq] at q
    exact ⟨i, rfl, q.1, q.2⟩
  have say : ∀ {d : PyData}, sayingD (ds.map nameOf) d = true → ∃ z so i, d = .tuple [.str z, .str so, .int i] ∧ z ∈ ds.map nameOf ∧ so ∈ sorts2 ∧ -greatS ≤ i ∧ i ≤ greatS := fun {d} q => by
    unfold sayingD at q
    split at q
    · rw [Bool.and_eq_true, Bool.and_eq_true] at q
      obtain ⟨z, rfl, hz⟩ := inn q.1
      obtain ⟨so, rfl, hs⟩ := inn q.2.1
      obtain ⟨i, rfl, b1, b2⟩ := who q.2.2
      exact ⟨z, so, i, rfl, hz, hs, b1, b2⟩
    · cases q
  unfold ruleD at h
  split at h
  · rw [Bool.and_eq_true, Bool.and_eq_true] at h
    have e := strIs_is h.1
    obtain ⟨z1, so1, i1, rfl, a1, a2, a3, a4⟩ := say h.2.1
    obtain ⟨z2, so2, i2, rfl, b1, b2, b3, b4⟩ := say h.2.2
    rw [e]
    exact .inl ⟨z1, so1, z2, so2, i1, i2, rfl, a1, b1, a2, b2, ⟨a3, a4⟩, b3, b4⟩
  · rw [Bool.and_eq_true, Bool.and_eq_true, Bool.and_eq_true, Bool.and_eq_true] at h
    obtain ⟨z1, rfl, a1⟩ := inn h.1
    obtain ⟨z2, rfl, a2⟩ := inn h.2.1
    obtain ⟨z3, rfl, a3⟩ := inn h.2.2.1
    obtain ⟨i, rfl, b1, b2⟩ := who h.2.2.2.2
    exact .inr ⟨z1, z2, z3, i, rfl, a1, a2, a3, b1, b2⟩
  · cases h
theorem nmH_ok {ds rs : List PyData} (hg : HouseG ds rs) {z : Str} (h : z ∈ ds.map nameOf) : nmOk z ∧ nameD (.str z) = true := by
  obtain ⟨d, hd, rfl⟩ := List.mem_map.mp h
  obtain ⟨nm, way, lo, hi, up, dn, rfl, h1, h2, _⟩ := hg.dials d hd
  refine ⟨h1, ?_⟩
  show (decide ((1 : Int) ≤ (nm.length : Int)) && (decide ((nm.length : Int) ≤ 8) && nm.cps.toList.all smallC)) = true
  rw [decide_eq_true (by omega), decide_eq_true (by omega), List.all_eq_true.mpr fun c hc => h1.2 c hc]
  rfl
/-- a saying at a, short enough to be written -/
def SayAt (H : Hp) (a : Addr) (z so : Str) (i : Int) : Prop := H a = some (.tup [.str z, .str so, .int i]) ∧ nmOk z ∧ so ∈ sorts2 ∧ -greatS ≤ i ∧ i ≤ greatS
def spWSay : Sp := fun vs H Q _ => ∃ (a : Addr) (z so : Str) (i : Int), vs = [.ref a] ∧ SayAt H a z so i ∧ Q (.str (z ++ sgnS so ++ numS i)) H
section
variable {P : Program} {w : World} {K : PySem.W.Frag} {mg : Str → Option Value} {base : Heap}
abbrev nWSay : List Str := ["saying", "name", "sort", "i"]
end
end Pk
end
section
set_option maxHeartbeats 1000000
/-! written_rule; the law's own show_saying. -/
namespace Pk
open PySem PySem.Spec PyProof.Rows L2 TL
/-- a rule at a, as it is written -/
inductive RuleAt (H : Hp) (a : Addr) : PyData → Prop
  | one {p q : Addr} {z1 so1 z2 so2 : Str} {i1 i2 : Int} (h : H a = some (.tup [.str "one", .ref p, .ref q])) (hp : SayAt H p z1 so1 i1) (hq : SayAt H q z2 so2 i2) : RuleAt H a (.tuple [.str "one", .tuple [.str z1, .str so1, .int i1], .tuple [.str z2, .str so2, .int i2]])
  | two {w x y : Str} {c : Int} (h : H a = some (.tup [.str w, .str x, .str y, .int c])) (hw : w ∈ pairs3) (hx : nmOk x) (hy : nmOk y) (b1 : -greatS ≤ c) (b2 : c ≤ greatS) : RuleAt H a (.tuple [.str w, .str x, .str y, .int c])
def spWRule : Sp := fun vs H Q _ => ∃ (a : Addr) (r : PyData), vs = [.ref a] ∧ RuleAt H a r ∧ Q (.str (rowS (wordsR r))) H
theorem app_eq {x y : Str} (h : tl x = tl y) : x = y := ext_tl h
section
variable {P : Program} {w : World} {K : PySem.W.Frag} {mg : Str → Option Value} {base : Heap}
abbrev nWRule : List Str := ["rule", "word", "a", "b", "c"]
abbrev nShSay : List Str := ["_law_saying_here"]
theorem scShSay : FnScope nShSay ["_law_saying_here"] (defScope sLSay) := ⟨rfl, rfl, rfl, by decide +kernel, rfl, by decide +kernel, by decide +kernel⟩
def spShSay : Sp := fun vs H Q _ => ∃ (a : Addr) (z so : Str) (i : Int), vs = [.ref a] ∧ SayAt H a z so i ∧ ∀ H', Same H H' → Q (.str (z ++ sgnS so ++ numS i)) H'
theorem ok_shSay {f : Addr} {fd : FuncData} (F : Fun K "_law_show_saying" "_law_show_saying" sLSay f fd) (mS : mg "str" = none) : FnOk P w K mg base CX0 1 f fd ["_law_saying_here"] spShSay := by
  refine F.ok scShSay (fun vs H Q E h => ?_) (fun cdv A outer s H vs Q E hr h => ?_)
  · obtain ⟨a, z, so, i, rfl, _⟩ := h
    rfl
  obtain ⟨a, z, so, i, rfl, ⟨ha, hz, hs, b1, b2⟩, k⟩ := h
  have hu := hu_of hr
  refine ⟨_, pss_one (ps_ret (pe_op op_add_str (pe_op op_add_str (pe_ix ix_tup (pv 0) pe_int (fun _ _ => rfl)) (pe_dget hu (pe_disp (pps_cons pe_str pe_str (pps_cons pe_str pe_str pps_nil)) (by rfl) rfl (by simp) (by decide)) (pe_ix ix_tup (pv 0) pe_int (fun _ _ => rfl)) (fun _ _ => rfl))) (pe_callTy call_str_int (by rfl) mS (by decide +kernel) (pa_cons (pe_ix ix_tup (pv 0) pe_int (fun _ _ => rfl)) pa_nil)))), ?_⟩
  have z1 := hz.1
  have s1 := (sgn_word so).1
  have n1 := num_len b1 b2
  have sl := sizeLine_eq
  refine ⟨_, rfl, a, _, _, _, rfl, rfl, SqT.of ha, rfl, fun p hp => ⟨upd_same, [(Sum.inr "least", .str ">="), (Sum.inr "most", .str "<=")], rfl, by decide, ?_⟩⟩
  rw [upd_upd]
  have s2 := sameNew hp (.dK (mergeK [] [(Sum.inr "least", .str ">="), (Sum.inr "most", .str "<=")]))
  refine ⟨_, rfl, a, _, _, _, rfl, rfl, SqT.of (s2 _ _ ha), rfl, p, .str (sgnS so), rfl, .inl ⟨_, Sum.inr so, .inl upd_same, rfl, ?_⟩, _, _, rfl, rfl, by omega, _, rfl, a, _, _, _, rfl, rfl, SqT.of (s2 _ _ ha), rfl, i, rfl, log_n b1 b2, _, _, rfl, rfl, by rw [len_app]; show _ + (numS i).length ≤ _; omega, k _ s2⟩
  have q : so = "least" ∨ so = "most" := by
    simp only [sorts2, List.mem_cons, List.not_mem_nil, or_false] at hs
    exact hs
  rcases q with rfl | rfl <;> rfl
end
end Pk
end
section
set_option maxHeartbeats 1000000
/-! kept of a fault, NoHouse's making, check_house, is_house. -/
namespace Pk
open PySem PySem.Spec PyProof.Rows L2 TL
abbrev sKept : Stmt := topH 3
abbrev sIsHouse : Stmt := topH 27
theorem house_lv {ds rs : List PyData} (hg : HouseG ds rs) : lv 0 (.tuple [.tuple ds, .tuple rs]) = true ∧ (PyData.tuple [.tuple ds, .tuple rs]).bulk ≤ 6000 ∧ (PyData.tuple [.tuple ds, .tuple rs]).depth ≤ 4 := by
  have a1 : lvs 0 ds = true := lvs_all fun d hd => (dial_lv (hg.dials d hd)).1
  have b1 : lvs 0 rs = true := lvs_all fun d hd => (hg.rules d hd).lv
  have a3 : PyData.depthAll ds ≤ 1 := depth_all fun d hd => (dial_lv (hg.dials d hd)).2.2
  have b3 : PyData.depthAll rs ≤ 2 := depth_all fun d hd => (hg.rules d hd).depth
  refine ⟨by rw [lv, lvs, lvs, lvs, lv, lv, a1, b1]; rfl, ?_, ?_⟩
  · have q1 := bulk_all (n := 80) fun d hd => (dial_lv (hg.dials d hd)).2.1
    have q2 := bulk_all (n := 120) fun r hr => (hg.rules r hr).bulk
    have l1 : (80 + 1) * ds.length ≤ 81 * 12 := Nat.mul_le_mul_left _ hg.d2
    have l2 : (120 + 1) * rs.length ≤ 121 * 40 := Nat.mul_le_mul_left _ hg.r2
    simp only [PyData.bulk, PyData.bulkAll]
    omega
  · simp only [PyData.depth, PyData.depthAll]
    omega
theorem house_okS {ds rs : List PyData} (hg : HouseG ds rs) : okS (.tuple [.tuple ds, .tuple rs]) = true := by
  obtain ⟨h1, h2, _⟩ := house_lv hg
  exact (lv_ok (by omega) h1 (by omega)).1
/-- a fault: a word, perhaps a number -/
def isFault (d : PyData) : Prop := (∃ z, d = .tuple [.str z]) ∨ ∃ z k, d = .tuple [.str z, .int k]
theorem fault_shape (d : PyData) : faultD d = .none ∨ isFault (faultD d) := by
  unfold faultD
  split
  · split
    · exact .inr (.inr ⟨_, _, rfl⟩)
    · split
      · exact .inr (.inr ⟨_, _, rfl⟩)
      · exact .inl rfl
  · exact .inr (.inl ⟨_, rfl⟩)
def scalV : V → Prop
  | .int _ => True
  | .str _ => True
  | _ => False
def spKeptS : Sp := fun vs H Q _ => ∃ x : V, vs = [x] ∧ scalV x ∧ Q x H
def spKeptT : Sp := fun vs H Q _ => ∃ (a : Addr) (xs : List V), vs = [.ref a] ∧ H a = some (.tup xs) ∧ xs.length ≤ 2 ∧ (∀ x ∈ xs, scalV x) ∧ ∀ (t : Addr) (H' : Hp), Same H H' → H' t = some (.tup xs) → Q (.ref t) H'
def spNHI (C : Addr) : Sp := fun vs H Q _ => ∃ (a t : Addr) (xs : List V), vs = [.ref a, .ref t] ∧ H a = some (exo a C none) ∧ H t = some (.tup xs) ∧ xs.length ≤ 2 ∧ (∀ x ∈ xs, scalV x) ∧ ∀ (t' : Addr) (H1 : Hp), Same H H1 → H1 t' = some (.tup xs) → ∀ dx, H1 dx = none → dx ≠ a → Q .non (upd (upd H1 dx (exd dx [("fault", .ref t')])) a (exo a C (some dx)))
section
variable {P : Program} {w : World} {K : PySem.W.Frag} {mg : Str → Option Value} {base : Heap} {Ps : List Addr} {P1 P2 : Addr}
theorem scKept : FnScope ["thing", "part", "key"] ["thing"] (defScope sKept) := ⟨rfl, rfl, rfl, by decide +kernel, rfl, by decide +kernel, by decide +kernel⟩
theorem ok_keptS {f : Addr} {fd : FuncData} (F : Fun K "kept" "kept" sKept f fd) (B : BltH mg) (mD : mg "dict" = none) : FnOk P w K mg base CX0 1 f fd ["thing"] spKeptS := by
  refine F.ok scKept (fun vs H Q E h => ?_) (fun cdv A outer s H vs Q E hr h => ?_)
  · obtain ⟨x, rfl, _⟩ := h
    rfl
  obtain ⟨x, rfl, sx, k⟩ := h
  refine ⟨_, pss_cons (ps_if (pt_val (pe_callB call_isi (by rfl) B.isinstance (by decide +kernel) (pa_cons (pv 0) (pa_cons (pe_bltn (v := .ty "list") (by rfl) B.list (by decide +kernel) rfl) pa_nil)))) (pss_one ps_never) pss_nil) <|
    pss_cons (ps_if (pt_val (pe_callB call_isi (by rfl) B.isinstance (by decide +kernel) (pa_cons (pv 0) (pa_cons (pe_bltn (v := .ty "tuple") (by rfl) B.tuple (by decide +kernel) rfl) pa_nil)))) (pss_one ps_never) pss_nil) <|
    pss_cons (ps_if (pt_val (pe_callB call_isi (by rfl) B.isinstance (by decide +kernel) (pa_cons (pv 0) (pa_cons (pe_bltn (v := .ty "dict") (by rfl) mD (by decide +kernel) rfl) pa_nil)))) (pss_one ps_never) pss_nil) <|
    pss_one (ps_ret (pv 0)), ?_⟩
  cases x with
  | int i =>
    refine ⟨_, rfl, _, .ty "list", _, _, _, rfl, .ty _, .base (.int i), kit_ty (show kitB "int" "list" = some false by decide +kernel), _, rfl, iteF ?_⟩
    refine ⟨_, rfl, _, .ty "tuple", _, _, _, rfl, .ty _, .base (.int i), kit_ty (show kitB "int" "tuple" = some false by decide +kernel), _, rfl, iteF ?_⟩
    refine ⟨_, rfl, _, .ty "dict", _, _, _, rfl, .ty _, .base (.int i), kit_ty (show kitB "int" "dict" = some false by decide +kernel), _, rfl, iteF ?_⟩
    exact ⟨_, rfl, k⟩
  | str i =>
    refine ⟨_, rfl, _, .ty "list", _, _, _, rfl, .ty _, .base (.str i), kit_ty (show kitB "str" "list" = some false by decide +kernel), _, rfl, iteF ?_⟩
    refine ⟨_, rfl, _, .ty "tuple", _, _, _, rfl, .ty _, .base (.str i), kit_ty (show kitB "str" "tuple" = some false by decide +kernel), _, rfl, iteF ?_⟩
    refine ⟨_, rfl, _, .ty "dict", _, _, _, rfl, .ty _, .base (.str i), kit_ty (show kitB "str" "dict" = some false by decide +kernel), _, rfl, iteF ?_⟩
    exact ⟨_, rfl, k⟩
  | _ => exact (show False from sx).elim
theorem ok_keptT {f : Addr} {fd : FuncData} (F : Fun K "kept" "kept" sKept f fd) (B : BltH mg) (G : FnOk P w K mg base CX0 1 f fd ["thing"] spKeptS) (bG : Binds K fd ["thing"] []) (kG : PySem.W.keepIn K (.ref f) = true) (mG : mg "kept" = some (.ref f)) : FnOk P w K mg base CX0 2 f fd ["thing"] spKeptT := by
  refine F.ok scKept (fun vs H Q E h => ?_) (fun cdv A outer s H vs Q E hr h => ?_)
  · obtain ⟨a, xs, rfl, _⟩ := h
    rfl
  obtain ⟨a, xs, rfl, ha, xl, sx, k⟩ := h
  refine ⟨_, pss_cons (ps_if (pt_val (pe_callB call_isi (by rfl) B.isinstance (by decide +kernel) (pa_cons (pv 0) (pa_cons (pe_bltn (v := .ty "list") (by rfl) B.list (by decide +kernel) rfl) pa_nil)))) (pss_one ps_never) pss_nil) <|
    pss_cons (ps_if (pt_val (pe_callB call_isi (by rfl) B.isinstance (by decide +kernel) (pa_cons (pv 0) (pa_cons (pe_bltn (v := .ty "tuple") (by rfl) B.tuple (by decide +kernel) rfl) pa_nil)))) (pss_one (ps_ret (pe_callTy call_tuple_of (by rfl) B.tuple (by decide +kernel) (pa_cons (pe_lc (own := [("part", 1)]) (g := gName 1) (by rfl) scKept.nd (pi_tup (pv 0)) (blkOk_by (N := ["thing", "part", "key"]) (sc := defScope sKept) (by decide +kernel)) (fun _ _ _ _ _ => pg_name (i := 1) scKept.nd rfl (Or.inl rfl)) (fun _ _ _ _ _ => pts_nil) (fun _ _ _ _ _ => pe_call G hr rfl mG kG bG .nil pass0 (pa_cons (pv 1) pa_nil))) pa_nil)))) pss_nil) <|
    pss_cons ps_never <| pss_one ps_never, ?_⟩
  refine ⟨_, rfl, _, .ty "list", _, _, _, rfl, .ty _, .base (.tup ha), kit_ty (show kitB "tuple" "list" = some false by decide +kernel), _, rfl, iteF ?_⟩
  refine ⟨_, rfl, _, .ty "tuple", _, _, _, rfl, .ty _, .base (.tup ha), kit_ty (show kitB "tuple" "tuple" = some true by decide +kernel), _, rfl, iteT ?_⟩
  refine ⟨_, rfl, a, rfl, ⟨_, SqT.of ha⟩, fun D hD => lc_tup (K := K) (a := a) (xs := xs) (fun i H1 => H1 D = some (.lst (xs.take i)) ∧ Same H H1)
    ⟨upd_same, sameNew hD _⟩ (fun i H1 _ ⟨_, s1⟩ => SqT.of (s1 _ _ ha)) ?_ ?_⟩
  · rintro i y H1 hy ⟨e1, s1⟩
    have il : i < xs.length := (List.getElem?_eq_some_iff.mp hy).1
    refine ⟨rfl, _, rfl, y, rfl, sx y (List.mem_of_getElem? hy), _, e1, small1000 (by rw [List.length_take]; omega), ?_, fun c o e => ?_⟩
    · rw [upd_same, take_more hy]
    · rw [upd_ne (ne_of_none e hD)]
      exact s1 _ _ e
  · rintro H1 ⟨e1, s1⟩
    rw [List.take_length] at e1
    exact ⟨D, _, rfl, .inl ⟨SqL.of e1, fun l hl => k l _ (s1.trans (sameNew hl _)) upd_same⟩⟩
end
end Pk
end
section
set_option maxHeartbeats 1000000
/-! check_house, is_house. -/
namespace Pk
open PySem PySem.Spec PyProof.Rows L2 TL
def spCheckX (Ps : List Addr) (CN : Addr) : Sp := fun vs H Q E => ∃ (x : V) (d : PyData), vs = [x] ∧ Tr H x d ∧ okS d = true ∧ Tabs Ps H ∧ (faultD d = .none → ∀ H', GrS Ps H H' → Q .non H') ∧ (isFault (faultD d) → ∀ (v : V) (dx : Addr) (H' : Hp), GrS Ps H H' → Tr H' v (faultD d) → H' dx = some (.xd [("fault", v)]) → E (.ref CN) (some dx) H')
def spIsHouse (Ps : List Addr) : Sp := fun vs H Q _ => ∃ (x : V) (d : PyData), vs = [x] ∧ Tr H x d ∧ okS d = true ∧ Tabs Ps H ∧ faultD d = .none ∧ ∀ H', GrS Ps H H' → Q (.bl true) H'
theorem fault_at {H : Hp} {v : V} {d : PyData} (h : isFault d) (t : Tr H v d) : ∃ (a : Addr) (xs : List V), v = .ref a ∧ H a = some (.tup xs) ∧ xs.length ≤ 2 ∧ (∀ x ∈ xs, scalV x) ∧ ∀ {H' : Hp} {b : Addr}, H' b = some (.tup xs) → Tr H' (.ref b) d := by
  rcases h with ⟨z, rfl⟩ | ⟨z, k, rfl⟩
  · cases t with
    | @tup a xs _ ha al =>
    match xs, al with
    | [_], .cons (.str _) .nil =>
      refine ⟨a, _, rfl, ha, Nat.le_succ _, fun x hx => ?_, fun h => .tup h (.cons (.str _) .nil)⟩
      rw [List.mem_singleton.mp hx]
      trivial
  · cases t with
    | @tup a xs _ ha al =>
    match xs, al with
    | [_, _], .cons (.str _) (.cons (.int _) .nil) =>
      refine ⟨a, _, rfl, ha, Nat.le_refl _, fun x hx => ?_, fun h => .tup h (.cons (.str _) (.cons (.int _) .nil))⟩
      simp only [List.mem_cons, List.not_mem_nil, or_false] at hx
      rcases hx with rfl | rfl <;> trivial
theorem free_of {H1 H2 : Hp} {a dx : Addr} {o : HO} (s : Same (L2.upd H1 a o) H2) (n1 : H2 dx = none) (n2 : dx ≠ a) : H1 dx = none := by
  cases e : H1 dx with
  | none => rfl
  | some u =>
    have q := s dx u (by rw [upd_ne n2]; exact e)
    rw [n1] at q
    cases q
section
variable {P : Program} {w : World} {K : PySem.W.Frag} {mg : Str → Option Value} {base : Heap} {Ps : List Addr} {P1 P2 : Addr}
theorem scIsHouse : FnScope ["thing"] ["thing"] (defScope sIsHouse) := ⟨rfl, rfl, rfl, by decide +kernel, rfl, by decide +kernel, by decide +kernel⟩
theorem ok_isHouse {f g : Addr} {fd gd : FuncData} (h1 : P1 ∈ Ps) (F : Fun K "is_house" "is_house" sIsHouse f fd) (G : FnOk P w K mg base CX0 5 g gd ["thing"] (spFault P1)) (bG : Binds K gd ["thing"] []) (kG : PySem.W.keepIn K (.ref g) = true) (mG : mg "fault_of" = some (.ref g)) :
    FnOk P w K mg base CX0 6 f fd ["thing"] (spIsHouse Ps) := by
  refine F.ok scIsHouse (fun vs H Q E h => ?_) (fun cdv A outer s H vs Q E hr h => ?_)
  · obtain ⟨x, d, rfl, _⟩ := h
    rfl
  obtain ⟨x, d, rfl, tx, ok, tb, e, k⟩ := h
  refine ⟨_, pss_one (ps_ret (pe_cmpR op_isN (pe_call G hr rfl mG kG bG .nil pass0 (pa_cons (pv 0) pa_nil)) pe_non (nomark _))), ?_⟩
  refine ⟨_, rfl, x, d, rfl, tx, tb _ h1, ok, fun v H1 g1 tv => ?_⟩
  rw [e] at tv
  cases tv
  exact ⟨rfl, k H1 (GrS.of h1 tb g1)⟩
end
end Pk
end
section
set_option maxHeartbeats 1000000
/-! Words of any kind: what they write. -/
namespace Pk
open PySem PySem.Spec PyProof.Rows L2 TL
abbrev Say := Str × Str × Int
abbrev sayV (s : Say) : List V := [.str s.1, .str s.2.1, .int s.2.2]
abbrev sayP (s : Say) : PyData := .tuple [.str s.1, .str s.2.1, .int s.2.2]
theorem starts1 (x : Str) (c : Nat) : Txt.startswith x ⟨#[c]⟩ = decide ((tl x)[0]? = some c) := by
  rw [Bool.eq_iff_iff, decide_eq_true_eq, ← PySem.StrLaws.subAt_one x c 0]
  unfold Txt.startswith
  rw [Bool.and_eq_true, decide_eq_true_eq]
theorem minus_is : ("-" : Str) = ⟨#[45]⟩ := by decide +kernel
theorem zero_is : ("0" : Str) = ⟨#[48]⟩ := by decide +kernel
/-- the figures of a word, without a sign -/
def figW (x : Str) : Str := if Txt.startswith x "-" = true then cutS x (some 1) none else x
theorem cut1_tl (x : Str) : tl (cutS x (some 1) none) = (tl x).drop 1 := by
  show (cutS x (some ((1 : Nat) : Int)) none).cps.toList = _
  rw [cutS_cps, HT.sIx_none, HT.sIx_nat]
  have l := len_tl x
  by_cases h : 1 ≤ x.length
  · rw [Nat.min_eq_left h]
    show ((tl x).drop 1).take _ = _
    exact List.take_of_length_le (by rw [List.length_drop]; omega)
  · have e : tl x = [] := List.eq_nil_of_length_eq_zero (by omega)
    show ((tl x).drop _).take _ = (tl x).drop 1
    rw [e]
    simp
def isNum (x : Str) : Bool := decide (1 ≤ (figW x).length) && (decide ((figW x).length ≤ 60) && ((figW x).cps.toList.all figC && !(Txt.startswith (figW x) "0" && !decide (x = "0"))))
def numW (x : Str) : Option Int := if isNum x = true then some ((intText? x).getD 0) else none
theorem figW_tl (x : Str) : (Txt.startswith x "-" = true ∧ tl x = 45 :: tl (figW x)) ∨ (Txt.startswith x "-" = false ∧ figW x = x) := by
  unfold figW
  cases h : Txt.startswith x "-" with
  | true =>
    refine .inl ⟨rfl, ?_⟩
    rw [if_pos rfl, cut1_tl]
    rw [minus_is, starts1, decide_eq_true_eq] at h
    cases e : tl x with
    | nil => rw [e] at h; cases h
    | cons c r =>
      rw [e] at h
      cases h
      rfl
  | false => exact .inr ⟨rfl, by simp⟩
theorem figC_digits {l : List Nat} (h : l.all figC = true) : NumText.AllDigits l := fun c hc => by
  have q := List.all_eq_true.mp h c hc
  simp only [figC, Bool.and_eq_true, decide_eq_true_eq] at q
  exact q
theorem isNum_parts {x : Str} (h : isNum x = true) : 1 ≤ (figW x).length ∧ (figW x).length ≤ 60 ∧ NumText.AllDigits (tl (figW x)) ∧ x.length ≤ 61 := by
  unfold isNum at h
  simp only [Bool.and_eq_true, decide_eq_true_eq] at h
  obtain ⟨h1, h2, h3, _⟩ := h
  refine ⟨h1, h2, figC_digits h3, ?_⟩
  rcases figW_tl x with ⟨_, e⟩ | ⟨_, e⟩
  · rw [len_tl, e, List.length_cons, ← len_tl]
    omega
  · rw [e] at h2
    omega
theorem isNum_int {x : Str} (h : isNum x = true) : ∃ i, intText? x = some i := by
  obtain ⟨h1, h2, h3, h4⟩ := isNum_parts h
  have ne : tl (figW x) ≠ [] := fun e => by
    rw [len_tl, e] at h1
    simp at h1
  rcases figW_tl x with ⟨_, e⟩ | ⟨_, e⟩
  · exact ⟨_, intText_neg e h3 ne (by omega)⟩
  · rw [e] at h3 ne
    exact ⟨_, intText_digits h3 ne (by omega)⟩
theorem numW_int {x : Str} (h : isNum x = true) : ∃ i, intText? x = some i ∧ numW x = some i := by
  obtain ⟨i, e⟩ := isNum_int h
  exact ⟨i, e, by unfold numW; rw [if_pos h, e]; rfl⟩
theorem numW_no {x : Str} (h : isNum x = false) : numW x = none := by unfold numW; rw [h]; rfl
theorem numW_some {x : Str} {i : Int} (h : numW x = some i) : isNum x = true := by
  unfold numW at h
  by_cases c : isNum x = true
  · exact c
  · rw [if_neg c] at h
    cases h
/-- the signs of a number's word -/
theorem isNum_signs {x : Str} (h : isNum x = true) : ∀ c ∈ tl x, c = 45 ∨ (48 ≤ c ∧ c ≤ 57) := fun c hc => by
  obtain ⟨_, _, h3, _⟩ := isNum_parts h
  rcases figW_tl x with ⟨_, e⟩ | ⟨_, e⟩
  · rw [e] at hc
    rcases List.mem_cons.mp hc with rfl | hc
    · exact .inl rfl
    · exact .inr (h3 c hc)
  · rw [e] at h3
    exact .inr (h3 c hc)
/-- of a number that is written -/
theorem numL_head : ∀ n : Nat, 1 ≤ n → ∃ c r, numL n = c :: r ∧ 49 ≤ c ∧ c ≤ 57 := by
  intro n
  induction n using Nat.strongRecOn with
  | _ n ih =>
    intro h
    by_cases h10 : n < 10
    · exact ⟨48 + n, [], numL_lt h10, by omega, by omega⟩
    · obtain ⟨c, r, e, b⟩ := ih (n / 10) (by omega) (by omega)
      exact ⟨c, r ++ [48 + n % 10], by rw [numL_step (by omega), e]; rfl, b⟩
theorem starts_minus (i : Int) : Txt.startswith (numS i) "-" = decide (i < 0) := by
  rw [minus_is, starts1, Bool.eq_iff_iff, decide_eq_true_eq, decide_eq_true_eq]
  cases i with
  | ofNat n =>
    refine ⟨fun z => ?_, fun z => absurd z (Int.not_lt.mpr (Int.natCast_nonneg n))⟩
    have z' : (numL n)[0]? = some 45 := by rw [← num_nat]; exact z
    have q := numL_digits n 45 (List.mem_of_getElem? z')
    omega
  | negSucc n => exact ⟨fun _ => Int.negSucc_lt_zero n, fun _ => by rw [num_neg]; rfl⟩
theorem fig_tl (i : Int) : tl (figW (numS i)) = numL i.natAbs := by
  unfold figW
  rw [starts_minus]
  cases i with
  | ofNat n =>
    rw [decide_eq_false (show ¬ Int.ofNat n < 0 from Int.not_lt.mpr (Int.natCast_nonneg n)), if_neg Bool.false_ne_true]
    exact num_nat n
  | negSucc n =>
    rw [decide_eq_true (Int.negSucc_lt_zero n), if_pos rfl, cut1_tl, num_neg]
    rfl
theorem num_isNum {i : Int} (h1 : -greatS ≤ i) (h2 : i ≤ greatS) : isNum (numS i) = true := by
  have gg : greatS = 100000000000000000000 := rfl
  have e := fig_tl i
  have l : (figW (numS i)).length = (numL i.natAbs).length := by rw [len_tl, e]
  have q := numL_len (n := i.natAbs) (k := 21) (by decide) (by omega)
  have r := numL_ne i.natAbs
  have l1 : 1 ≤ (numL i.natAbs).length := by
    cases ee : numL i.natAbs with
    | nil => exact absurd ee r
    | cons a t => simp
  have al : (figW (numS i)).cps.toList.all figC = true := by
    show (tl (figW (numS i))).all figC = true
    rw [e, List.all_eq_true]
    intro c hc
    have z := numL_digits _ c hc
    simp only [figC, Bool.and_eq_true, decide_eq_true_eq]
    exact z
  have zz : (Txt.startswith (figW (numS i)) "0" && !decide (numS i = "0")) = false := by
    cases hs : Txt.startswith (figW (numS i)) "0" with
    | false => rfl
    | true =>
      rw [zero_is, starts1, decide_eq_true_eq, e] at hs
      by_cases z : 1 ≤ i.natAbs
      · obtain ⟨c, t, ee, b1, b2⟩ := numL_head _ z
        rw [ee] at hs
        have : c = 48 := Option.some.inj hs
        omega
      · have ei : i = 0 := by omega
        rw [ei]
        decide +kernel
  unfold isNum
  rw [l, decide_eq_true l1, decide_eq_true (by omega), al, zz]
  rfl
theorem num_numW {i : Int} (h1 : -greatS ≤ i) (h2 : i ≤ greatS) : numW (numS i) = some i := by
  unfold numW
  rw [if_pos (num_isNum h1 h2), num_back h1 h2]
  rfl
theorem numW_empty : numW Str.empty = none := by
  refine numW_no ?_
  decide +kernel
/-! ### cut at a sign -/
theorem spl_pass0 {S : List Nat} : ∀ (k : Nat) (acc l : List Nat), spl S k acc l = spl S 0 acc (l.drop k)
  | 0, acc, l => by rw [List.drop_zero]
  | k + 1, acc, [] => by rw [List.drop_nil, spl_nil, spl_nil]
  | k + 1, acc, c :: r => by
    show spl S k acc r = _
    rw [spl_pass0 k acc r, List.drop_succ_cons]
theorem spl_par {S : List Nat} (hS : S ≠ []) : ∀ (l acc : List Nat), spl S 0 acc l = match par S acc l with | some (a, r) => a :: spl S 0 [] r | none => [acc ++ l]
  | [], acc => by
    rw [spl_nil]
    show [acc] = [acc ++ []]
    rw [List.append_nil]
  | c :: r, acc => by
    by_cases h : pre S (c :: r) = true
    · rw [spl_hit h, par_hit h]
      show acc :: spl S (S.length - 1) [] r = acc :: spl S 0 [] ((c :: r).drop S.length)
      rw [spl_pass0]
      cases S with
      | nil => exact absurd rfl hS
      | cons s S => rfl
    · have h' : pre S (c :: r) = false := by simpa using h
      rw [spl_miss h', par_miss h', spl_par hS r (acc ++ [c])]
      cases par S (acc ++ [c]) r with
      | none => simp
      | some p => rfl
theorem par_app {S : List Nat} (hS : S ≠ []) : ∀ {l acc a r : List Nat}, par S acc l = some (a, r) → acc ++ l = a ++ (S ++ r)
  | [], acc, a, r, h => by cases h
  | c :: l, acc, a, r, h => by
    by_cases hp : pre S (c :: l) = true
    · rw [par_hit hp] at h
      cases h
      have e : (c :: l).take S.length = S := eq_of_beq hp
      have t := List.take_append_drop S.length (c :: l)
      rw [e] at t
      rw [t]
    · have h' : pre S (c :: l) = false := by simpa using hp
      rw [par_miss h'] at h
      have q := par_app hS h
      rw [List.append_assoc] at q
      exact q
theorem tl_ge : tl (">=" : Str) = [62, 61] := by decide +kernel
theorem tl_lq : tl ("<=" : Str) = [60, 61] := by decide +kernel
theorem ge_ok : (">=" : Str).cps.all (· < 256) = true := by decide +kernel
theorem lq_ok : ("<=" : Str).cps.all (· < 256) = true := by decide +kernel
/-- x cut at its first mark: ahead of it, behind it -/
def cutM (x m : Str) : Option (Str × Str) := match par (tl m) [] (tl x) with | some (a, r) => some (⟨a.toArray⟩, ⟨r.toArray⟩) | none => none
theorem part_cut {x m : Str} (h : tl m ≠ []) : Txt.partition x m = match cutM x m with | some (a, r) => (a, m, r) | none => (x, Str.empty, Str.empty) := by
  rw [partition_par x m h]
  unfold cutM
  cases par (tl m) [] (tl x) with
  | none => rfl
  | some p => rfl
theorem cutM_app {x m a r : Str} (hm : tl m ≠ []) (h : cutM x m = some (a, r)) : tl x = tl a ++ (tl m ++ tl r) := by
  unfold cutM at h
  cases e : par (tl m) [] (tl x) with
  | none => rw [e] at h; cases h
  | some p =>
    obtain ⟨a', r'⟩ := p
    rw [e] at h
    cases h
    exact par_app hm e
theorem split_cut {x m : Str} (h : tl m ≠ []) (hk : m.cps.all (· < 256) = true) : Txt.split x m = match cutM x m with | some (a, r) => a :: Txt.split r m | none => [x] := by
  refine map_tl_inj ?_
  rw [split_spl x m h (kind_ok hk), spl_par h]
  unfold cutM
  cases e : par (tl m) [] (tl x) with
  | none => rfl
  | some p =>
    obtain ⟨a, r⟩ := p
    show a :: spl (tl m) 0 [] r = tl ⟨a.toArray⟩ :: (Txt.split ⟨r.toArray⟩ m).map tl
    rw [split_spl _ m h (kind_ok hk)]
theorem cutM_no {x m : Str} {s : Nat} {S : List Nat} (em : tl m = s :: S) (h : s ∉ tl x) : cutM x m = none := by
  unfold cutM
  rw [em, par_none1 h]
end Pk
end
section
set_option maxHeartbeats 1000000
/-! Sayings, rules, dials and rows that words write: as the program reads them, as the law does. -/
namespace Pk
open PySem PySem.Spec PyProof.Rows L2 TL
/-- one sort: the words with this mark -/
def sayS1 (x m so : Str) : Option Say := match cutM x m with
  | some (a, r) => if nameD (.str a) && (numW r).isSome then some (a, so, (numW r).getD 0) else none
  | none => none
def sayR (x : Str) : Option Say := match sayS1 x ">=" "least" with
  | some s => some s
  | none => sayS1 x "<=" "most"
/-- as the law does -/
def sayQ (x m so : Str) : Option (Option Say) := match cutM x m with
  | some (a, r) => match cutM r m with
    | none => some (if nameD (.str a) && (numW r).isSome then some (a, so, (numW r).getD 0) else none)
    | some _ => none
  | none => none
def sayL (x : Str) : Option Say := match sayQ x ">=" "least" with
  | some s => s
  | none => match sayQ x "<=" "most" with
    | some s => s
    | none => none
theorem ge_ne : tl (">=" : Str) ≠ [] := by rw [tl_ge]; simp
theorem lq_ne : tl ("<=" : Str) ≠ [] := by rw [tl_lq]; simp
theorem num_nomark {r : Str} {i : Int} (h : numW r = some i) : cutM r ">=" = none ∧ cutM r "<=" = none :=
  ⟨cutM_no tl_ge fun z => by have := isNum_signs (numW_some h) _ z; omega, cutM_no tl_lq fun z => by have := isNum_signs (numW_some h) _ z; omega⟩
theorem name_letters {a : Str} (h : nameD (.str a) = true) : ∀ c ∈ tl a, 97 ≤ c ∧ c ≤ 122 := fun c hc => by
  rw [nameD_str, Bool.and_eq_true, Bool.and_eq_true, List.all_eq_true] at h
  have q := h.2.2 c hc
  simp only [smallC, Bool.and_eq_true, decide_eq_true_eq] at q
  exact q
/-- a word with the other mark in it is none of this sort -/
theorem other_none {x : Str} (h : 62 ∈ tl x) : sayS1 x "<=" "most" = none := by
  unfold sayS1
  cases e : cutM x "<=" with
  | none => rfl
  | some p =>
    obtain ⟨a, r⟩ := p
    show (if (nameD (.str a) && (numW r).isSome) = true then _ else none) = none
    by_cases c : (nameD (.str a) && (numW r).isSome) = true
    · exfalso
      rw [Bool.and_eq_true, Option.isSome_iff_exists] at c
      obtain ⟨c1, i, c2⟩ := c
      have ap := cutM_app lq_ne e
      rw [ap, tl_lq] at h
      rcases List.mem_append.mp h with q | q
      · have := name_letters c1 _ q
        omega
      · rcases List.mem_append.mp q with q | q
        · simp at q
        · have := isNum_signs (numW_some c2) _ q
          omega
    · rw [if_neg c]
theorem q_of {x m so : Str} (hn : ∀ {r : Str} {i : Int}, numW r = some i → cutM r m = none) : (sayQ x m so = none ∧ sayS1 x m so = none) ∨ sayQ x m so = some (sayS1 x m so) := by
  unfold sayQ sayS1
  cases e : cutM x m with
  | none => exact .inl ⟨rfl, rfl⟩
  | some p =>
    obtain ⟨a, r⟩ := p
    cases n : numW r with
    | some i =>
      refine .inr ?_
      show (match cutM r m with | none => _ | some _ => none) = _
      rw [hn n]
    | none =>
      have z : (if (nameD (.str a) && (none : Option Int).isSome) = true then some (a, so, (none : Option Int).getD 0) else none) = (none : Option Say) := by simp
      show ((match cutM r m with | none => some (if (nameD (.str a) && (numW r).isSome) = true then some (a, so, (numW r).getD 0) else none) | some _ => none) = none ∧ (if (nameD (.str a) && (numW r).isSome) = true then some (a, so, (numW r).getD 0) else none) = none) ∨ (match cutM r m with | none => some (if (nameD (.str a) && (numW r).isSome) = true then some (a, so, (numW r).getD 0) else none) | some _ => none) = some (if (nameD (.str a) && (numW r).isSome) = true then some (a, so, (numW r).getD 0) else none)
      rw [n, z]
      cases cutM r m with
      | none => exact .inr rfl
      | some _ => exact .inl ⟨rfl, rfl⟩
theorem sayL_eq (x : Str) : sayL x = sayR x := by
  unfold sayL sayR
  rcases q_of (x := x) (m := ">=") (so := "least") fun h => (num_nomark h).1 with ⟨e1, e2⟩ | e1
  · rw [e1, e2]
    rcases q_of (x := x) (m := "<=") (so := "most") fun h => (num_nomark h).2 with ⟨e3, e4⟩ | e3
    · rw [e3, e4]
    · rw [e3]
  · rw [e1]
    cases e : sayS1 x ">=" "least" with
    | some s => rfl
    | none =>
      have hx : 62 ∈ tl x := by
        unfold sayQ at e1
        cases ec : cutM x ">=" with
        | none => rw [ec] at e1; cases e1
        | some p =>
          have ap := cutM_app ge_ne (a := p.1) (r := p.2) ec
          rw [ap, tl_ge]
          simp
      show none = sayS1 x "<=" "most"
      rw [other_none hx]
theorem sayS1_name {x m so : Str} {s : Say} (h : sayS1 x m so = some s) : nameD (.str s.1) = true ∧ s.2.1 = so := by
  unfold sayS1 at h
  cases e : cutM x m with
  | none => rw [e] at h; cases h
  | some p =>
    obtain ⟨a, r⟩ := p
    rw [e] at h
    have h : (if (nameD (.str a) && (numW r).isSome) = true then some (a, so, (numW r).getD 0) else none) = some s := h
    by_cases c : (nameD (.str a) && (numW r).isSome) = true
    · rw [if_pos c] at h
      cases h
      rw [Bool.and_eq_true] at c
      exact ⟨c.1, rfl⟩
    · rw [if_neg c] at h
      cases h
theorem sayR_good {x : Str} {s : Say} (h : sayR x = some s) : nameD (.str s.1) = true ∧ s.2.1 ∈ sorts2 := by
  unfold sayR at h
  cases e : sayS1 x ">=" "least" with
  | some t =>
    rw [e] at h
    cases h
    obtain ⟨h1, h2⟩ := sayS1_name e
    exact ⟨h1, by rw [h2]; decide +kernel⟩
  | none =>
    rw [e] at h
    obtain ⟨h1, h2⟩ := sayS1_name (show sayS1 x "<=" "most" = some s from h)
    exact ⟨h1, by rw [h2]; decide +kernel⟩
/-! ### rules, dials, rows -/
inductive Rw where
  | one (s t : Say)
  | two (w a b : Str) (c : Int)
structure Dw where
  nm : Str
  lo : Int
  hi : Int
  way : Str
  up : Int
  dn : Int
def ruleP : Rw → PyData
  | .one s t => .tuple [.str "one", sayP s, sayP t]
  | .two w a b c => .tuple [.str w, .str a, .str b, .int c]
def dialP (d : Dw) : PyData := .tuple [.str d.nm, .int d.lo, .int d.hi, .str d.way, .int d.up, .int d.dn]
def houseP (ds : List Dw) (rs : List Rw) : PyData := .tuple [.tuple (ds.map dialP), .tuple (rs.map ruleP)]
def readR : List Str → Option Rw
  | [w, a, b] => if w = "one" then (match sayR a, sayR b with | some s, some t => some (.one s t) | _, _ => none) else none
  | [w, a, b, f] => if inS pairs3 (.str w) && (nameD (.str a) && nameD (.str b)) then (match numW f with | some c => some (.two w a b c) | none => none) else none
  | _ => none
def readD : List Str → Option Dw
  | [d, nm, lo, hi, way, up, dn] => if decide (d = "dial") && (nameD (.str nm) && inS ways3 (.str way)) then (match numW lo, numW hi, numW up, numW dn with | some a, some b, some c, some e => some ⟨nm, a, b, way, c, e⟩ | _, _, _, _ => none) else none
  | _ => none
inductive Row where
  | dial (d : Dw)
  | rule (r : Rw)
def readW (x : Str) : Option Row := match readR (Txt.split x " ") with
  | some r => some (.rule r)
  | none => match readD (Txt.split x " ") with
    | some d => some (.dial d)
    | none => none
/-- the rows from the k-th on: the row due, or all dials and rules -/
def readH : Nat → List Dw → List Rw → List Str → Nat ⊕ (List Dw × List Rw)
  | _, ds, rs, [] => .inr (ds, rs)
  | k, ds, rs, x :: l => match readW x with
    | some (.rule r) => readH (k + 1) ds (rs ++ [r]) l
    | some (.dial d) => if rs.isEmpty then readH (k + 1) (ds ++ [d]) rs l else .inl k
    | none => .inl k
def goodH (ds : List Dw) (rs : List Rw) : Bool := isN (faultD (houseP ds rs))
/-- what a text writes: a house, or the row that is due -/
def readX (x : Str) : Nat ⊕ (List Dw × List Rw) := match readH 0 [] [] (Txt.split x "\n") with
  | .inl k => .inl k
  | .inr (ds, rs) => if goodH ds rs then .inr (ds, rs) else .inl (Txt.split x "\n").length
def toldP : Nat ⊕ (List Dw × List Rw) → PyData
  | .inl k => .tuple [.str "row", .int k]
  | .inr (ds, rs) => houseP ds rs
end Pk
end
section
set_option maxHeartbeats 1000000
/-! read_number, read_saying, read_by: of any word. -/
namespace Pk
open PySem PySem.Spec PyProof.Rows L2 TL
abbrev sRNum : Stmt := topH 31
abbrev sRSay : Stmt := topH 33
def vI : Option Int → V
  | some i => .int i
  | none => .non
def spRNum (Pt : Addr) : Sp := fun vs H Q _ => ∃ x : Str, vs = [.str x] ∧ x.length ≤ sizeLine ∧ GxR.TabG H Pt ∧ ∀ H', Gr Pt H H' → Q (vI (numW x)) H'
theorem figW_len (x : Str) : (figW x).length ≤ x.length := by
  rcases figW_tl x with ⟨_, e⟩ | ⟨_, e⟩
  · rw [len_tl x, e, List.length_cons, ← len_tl]
    omega
  · rw [e]
    exact Nat.le_refl _
section
variable {P : Program} {w : World} {K : PySem.W.Frag} {mg : Str → Option Value} {base : Heap}
abbrev nRNum : List Str := ["word", "figures"]
theorem scRNum : FnScope nRNum ["word"] (defScope sRNum) := ⟨rfl, rfl, rfl, by decide +kernel, rfl, by decide +kernel, by decide +kernel⟩
theorem ok_rnum {f c Pt : Addr} {oc : Value} {od an : Option Addr} {osl : Array (Option Value)} {kV doc pm ct : Value} (lk : K.lookup f = some ⟨oc, od, .func (PySem.W.fnOf "read_number" "read_number" (defArgs sRNum) (defBody sRNum) (defScope sRNum) .none kV doc pm an (.ref c) ct), osl⟩) (hcd : PySem.W.codeIn K (.ref c) "read_number" = true)
    (TB : GxR.TabB base mg c Pt) (B : BltH mg) (m60 : ∃ t, mg "MOST_FIGURES" = some (.int 60 t)) : FnOk P w K mg base CX0 2 f (PySem.W.fnOf "read_number" "read_number" (defArgs sRNum) (defBody sRNum) (defScope sRNum) .none kV doc pm an (.ref c) ct) ["word"] (spRNum Pt) := by
  refine fn_of lk hcd scRNum (fun vs H Q E h => ?_) (fun A outer s H vs Q E hr h => ?_)
  · obtain ⟨x, rfl, _⟩ := h
    rfl
  obtain ⟨x, rfl, xl, tg, k⟩ := h
  obtain ⟨tk, h60⟩ := m60
  refine ⟨_, PSs.nox (pss_cons (ps_set (i := 1) scRNum.nd rfl (.inl rfl) (pe_ifExp (pt_val (pe_bm PySem.F.plainAttrs_str PySem.F.slot_str_startswith PySem.F.type_str_startswith mt_startswith (pv 0) (pa_cons pe_str pa_nil))) (pe_slice sl_str (pv 0) (po_some pe_int) po_none) (pv 0))) <|
    pss_cons (ps_if (PW.pt (pw_or (pt_not (pt_chain op_le op_le pe_int (pe_callB call_len_str (by rfl) B.len PySem.boot_len (pa_cons (pv 1) pa_nil)) (pe_glob (v := .int 60) (by rfl) h60 ⟨_, rfl⟩))) (pw_or1 (pt_not (pt_val (GxR.pe_allS hr (by rfl) B.all (by decide +kernel) TB rfl (gsSign _) (pv 1) (elt_09 rfl rfl) (fun _ => rfl))))))) (pss_one (ps_ret pe_non)) pss_nil) <|
    pss_cons (ps_if (PW.pt (pw_and (pt_val (pe_bm PySem.F.plainAttrs_str PySem.F.slot_str_startswith PySem.F.type_str_startswith mt_startswith (pv 1) (pa_cons pe_str pa_nil))) (pw_and1 (pt_cmpR op_ne (pv 0) pe_str (nomark _))))) (pss_one (ps_ret pe_non)) pss_nil) <|
    pss_one (ps_ret (pe_callTy call_int_str (by rfl) B.int (by decide +kernel) (pa_cons (pv 0) pa_nil)))), ?_⟩
  have sl := sizeLine_eq
  have fl := figW_len x
  refine ⟨_, rfl, rfl, _, _, rfl, rfl, _, rfl, ?_⟩
  cases hs : Txt.startswith x "-" with
  | true =>
    have hY : cutS x (some 1) none = figW x := by unfold figW; rw [if_pos hs]
    have hYl : (cutS x (some 1) none).length ≤ sizeLine := by rw [hY]; omega
    refine iteT ⟨_, rfl, 1, rfl, _, rfl, by omega, ?_⟩
    generalize cutS x (some 1) none = Y at hY hYl
    refine ⟨_, rfl, Y, rfl, hYl, _, _, rfl, rfl, _, rfl, ?_⟩
    by_cases c1 : 1 ≤ (Y).length
    · rw [decide_eq_true (show (1 : Int) ≤ ((Str.length (Y) : Nat) : Int) by omega)]
      refine iteT ⟨_, _, rfl, rfl, _, rfl, ?_⟩
      by_cases c2 : (Y).length ≤ 60
      · rw [decide_eq_true (show ((Str.length (Y) : Nat) : Int) ≤ 60 by omega)]
        refine iteF ⟨_, rfl, Y, rfl, tg, fun H2 tb => ?_⟩
        cases c3 : (Y).cps.toList.all figC with
        | false =>
          have en : numW x = none := numW_no (by unfold isNum; rw [← hY, c3]; simp)
          rw [en] at k
          exact ⟨_, rfl, iteT (k H2 (Gr.of tb))⟩
        | true =>
          refine ⟨_, rfl, iteF ⟨_, rfl, rfl, _, _, rfl, rfl, _, rfl, ?_⟩⟩
          cases c4 : Txt.startswith (Y) "0" with
          | true =>
            refine iteT ⟨_, rfl, rfl, _, rfl, ?_⟩
            by_cases c5 : x = "0"
            · rw [decide_eq_true (show V.str x = V.str "0" by rw [c5])]
              have hn : isNum x = true := by unfold isNum; rw [← hY, c3, c4, decide_eq_true c1, decide_eq_true c2, decide_eq_true c5]; rfl
              obtain ⟨i, e1, e2⟩ := numW_int hn
              have l61 := (isNum_parts hn).2.2.2
              rw [e2] at k
              exact iteF ⟨_, rfl, _, i, rfl, e1, by omega, k _ (Gr.of tb)⟩
            · rw [decide_eq_false (fun z => c5 (V.str.inj z))]
              have en : numW x = none := numW_no (by unfold isNum; rw [← hY, c4, decide_eq_false c5]; simp)
              rw [en] at k
              exact iteT (k H2 (Gr.of tb))
          | false =>
            have hn : isNum x = true := by unfold isNum; rw [← hY, c3, c4, decide_eq_true c1, decide_eq_true c2]; rfl
            obtain ⟨i, e1, e2⟩ := numW_int hn
            have l61 := (isNum_parts hn).2.2.2
            rw [e2] at k
            exact iteF (iteF ⟨_, rfl, _, i, rfl, e1, by omega, k _ (Gr.of tb)⟩)
      · rw [decide_eq_false (show ¬ ((Str.length (Y) : Nat) : Int) ≤ 60 by omega)]
        have en : numW x = none := numW_no (by unfold isNum; rw [← hY, decide_eq_false c2]; simp)
        rw [en] at k
        exact iteT (k H (Gr.refl tg))
    · rw [decide_eq_false (show ¬ (1 : Int) ≤ ((Str.length (Y) : Nat) : Int) by omega)]
      have en : numW x = none := numW_no (by unfold isNum; rw [← hY, decide_eq_false c1]; rfl)
      rw [en] at k
      exact iteF ⟨_, rfl, iteT (k H (Gr.refl tg))⟩
  | false =>
    have hY : x = figW x := by unfold figW; rw [hs]; rfl
    have hYl : x.length ≤ sizeLine := xl
    refine iteF ⟨_, rfl, ?_⟩
    refine ⟨_, rfl, x, rfl, hYl, _, _, rfl, rfl, _, rfl, ?_⟩
    by_cases c1 : 1 ≤ (x).length
    · rw [decide_eq_true (show (1 : Int) ≤ ((Str.length (x) : Nat) : Int) by omega)]
      refine iteT ⟨_, _, rfl, rfl, _, rfl, ?_⟩
      by_cases c2 : (x).length ≤ 60
      · rw [decide_eq_true (show ((Str.length (x) : Nat) : Int) ≤ 60 by omega)]
        refine iteF ⟨_, rfl, x, rfl, tg, fun H2 tb => ?_⟩
        cases c3 : (x).cps.toList.all figC with
        | false =>
          have en : numW x = none := numW_no (by unfold isNum; rw [← hY, c3]; simp)
          rw [en] at k
          exact ⟨_, rfl, iteT (k H2 (Gr.of tb))⟩
        | true =>
          refine ⟨_, rfl, iteF ⟨_, rfl, rfl, _, _, rfl, rfl, _, rfl, ?_⟩⟩
          cases c4 : Txt.startswith (x) "0" with
          | true =>
            refine iteT ⟨_, rfl, rfl, _, rfl, ?_⟩
            by_cases c5 : x = "0"
            · rw [decide_eq_true (show V.str x = V.str "0" by rw [c5])]
              have hn : isNum x = true := by unfold isNum; rw [← hY, c3, c4, decide_eq_true c1, decide_eq_true c2, decide_eq_true c5]; rfl
              obtain ⟨i, e1, e2⟩ := numW_int hn
              have l61 := (isNum_parts hn).2.2.2
              rw [e2] at k
              exact iteF ⟨_, rfl, _, i, rfl, e1, by omega, k _ (Gr.of tb)⟩
            · rw [decide_eq_false (fun z => c5 (V.str.inj z))]
              have en : numW x = none := numW_no (by unfold isNum; rw [← hY, c4, decide_eq_false c5]; simp)
              rw [en] at k
              exact iteT (k H2 (Gr.of tb))
          | false =>
            have hn : isNum x = true := by unfold isNum; rw [← hY, c3, c4, decide_eq_true c1, decide_eq_true c2]; rfl
            obtain ⟨i, e1, e2⟩ := numW_int hn
            have l61 := (isNum_parts hn).2.2.2
            rw [e2] at k
            exact iteF (iteF ⟨_, rfl, _, i, rfl, e1, by omega, k _ (Gr.of tb)⟩)
      · rw [decide_eq_false (show ¬ ((Str.length (x) : Nat) : Int) ≤ 60 by omega)]
        have en : numW x = none := numW_no (by unfold isNum; rw [← hY, decide_eq_false c2]; simp)
        rw [en] at k
        exact iteT (k H (Gr.refl tg))
    · rw [decide_eq_false (show ¬ (1 : Int) ≤ ((Str.length (x) : Nat) : Int) by omega)]
      have en : numW x = none := numW_no (by unfold isNum; rw [← hY, decide_eq_false c1]; rfl)
      rw [en] at k
      exact iteF ⟨_, rfl, iteT (k H (Gr.refl tg))⟩
end
end Pk
end
section
set_option maxHeartbeats 1000000
/-! read_saying, read_by. -/
namespace Pk
open PySem PySem.Spec PyProof.Rows L2 TL
theorem GrS.new {Ps : List Addr} {H H' : Hp} {D : Addr} {o : HO} (t : Tabs Ps H) (g : GrS Ps H H') (h : H D = none) (n : ∀ q, o ≠ .tbl q) : GrS Ps H (L2.upd H' D o) := by
  have nD : D ∉ Ps := fun z => by
    obtain ⟨ps, e, _⟩ := t D z
    rw [h] at e
    cases e
  refine ⟨fun P hP => ?_, fun b u hb e => ?_⟩
  · obtain ⟨ps, e, r⟩ := g.1 P hP
    exact ⟨ps, by rw [upd_ne (fun z => nD (by rw [← z]; exact hP))]; exact e, r⟩
  · rw [upd_ne (ne_of_none e h)]
    exact g.2 b u hb e
theorem for_kk {zs : List Str} {g : TG} {tb : TS} {D : Ends} {σ : L2.St} {H : Hp} (Pv : Nat → L2.St → Hp → Prop) (h0 : Pv 0 σ H)
    (hs : ∀ i z σ H, zs[i]? = some z → Pv i σ H → g (.str z) σ H fun σ2 H2 => tb { D with nx := Pv (i + 1), ct := Pv (i + 1), bk := D.nx } σ2 H2) (hd : ∀ σ H, Pv zs.length σ H → D.nx σ H) :
    ∃ W : Nat → Nat → L2.St → Hp → Prop, (∃ m, W 0 m σ H) ∧ ∀ i m σ H, W i m σ H →
      ((Itkk zs).stop i H ∧ D.nx σ H) ∨ ((Itkk zs).go i H ∧ ∃ N : L2.St → Hp → Prop, (∀ σ' H', N σ' H' → ∃ m', m' < m ∧ W (i + 1) m' σ' H') ∧ ∀ x H', (Itkk zs).yld i H x H' → g x σ H' fun σ2 H2 => tb { D with nx := N, ct := N, bk := D.nx } σ2 H2) := by
  refine ⟨fun i m σ H => m = zs.length - i ∧ i ≤ zs.length ∧ Pv i σ H, ⟨_, rfl, Nat.zero_le _, h0⟩, fun i m σ H ⟨em, hi, pv⟩ => ?_⟩
  by_cases lt : i < zs.length
  · refine .inr ⟨lt, Pv (i + 1), fun σ' H' q => ⟨zs.length - (i + 1), by omega, rfl, lt, q⟩, fun x H' ⟨e, z, hz, ex⟩ => ?_⟩
    rw [e, ex]
    exact hs i z σ H hz pv
  · have e : i = zs.length := by omega
    rw [e] at pv
    exact .inl ⟨Nat.le_of_eq e.symm, hd σ H pv⟩
def oS : Option Say → PyData
  | some s => sayP s
  | none => .none
/-- a saying, or None -/
def SayO (H : Hp) (v : V) : Option Say → Prop
  | none => v = .non
  | some s => ∃ q, v = .ref q ∧ H q = some (.tup (sayV s))
theorem SayO.tr {H : Hp} {v : V} {o : Option Say} (h : SayO H v o) : Tr H v (oS o) := by
  cases o with
  | none =>
    cases (show v = .non from h)
    exact .non
  | some s =>
    obtain ⟨q, rfl, hq⟩ := h
    exact .tup hq (.cons (.str _) (.cons (.str _) (.cons (.int _) .nil)))
theorem SayO.grs {Ps : List Addr} {H H' : Hp} {v : V} {o : Option Say} (t : Tabs Ps H) (h : SayO H v o) (g : GrS Ps H H') : SayO H' v o := by
  cases o with
  | none => exact h
  | some s =>
    obtain ⟨q, e, hq⟩ := h
    exact ⟨q, e, g.at t hq (by intro q z; cases z)⟩
theorem SayO.upd {H : Hp} {v : V} {o : Option Say} {D : Addr} {xs : List V} {u : HO} (h : SayO H v o) (hD : H D = some (.lst xs)) : SayO (L2.upd H D u) v o := by
  cases o with
  | none => exact h
  | some s =>
    obtain ⟨q, e, hq⟩ := h
    exact ⟨q, e, by rw [upd_ne (fun z => by rw [z, hD] at hq; cases hq)]; exact hq⟩
def spRSay (Ps : List Addr) : Sp := fun vs H Q _ => ∃ x : Str, vs = [.str x] ∧ x.length ≤ sizeLine ∧ Tabs Ps H ∧ ∀ (v : V) (H' : Hp), GrS Ps H H' → SayO H' v (sayR x) → Q v H'
section
variable {P : Program} {w : World} {K : PySem.W.Frag} {mg : Str → Option Value} {base : Heap} {Ps : List Addr} {P1 P2 : Addr}
abbrev nRSay : List Str := ["word", "sort", "name", "sign", "figures", "i"]
theorem scRSay : FnScope nRSay ["word"] (defScope sRSay) := ⟨rfl, rfl, rfl, by decide +kernel, rfl, by decide +kernel, by decide +kernel⟩
theorem ok_rsay {f g n S : Addr} {fd gd nd : FuncData} (h1 : P1 ∈ Ps) (h2 : P2 ∈ Ps) (F : Fun K "read_saying" "read_saying" sRSay f fd) (C : SignC K w mg S)
    (G : FnOk P w K mg base CX0 2 g gd ["word"] (spRNum P1)) (bG : Binds K gd ["word"] []) (kG : PySem.W.keepIn K (.ref g) = true) (mG : mg "read_number" = some (.ref g))
    (N : FnOk P w K mg base CX0 2 n nd ["thing"] (spIsName P2)) (bN : Binds K nd ["thing"] []) (kN : PySem.W.keepIn K (.ref n) = true) (mN : mg "is_name" = some (.ref n)) :
    FnOk P w K mg base CX0 3 f fd ["word"] (spRSay Ps) := by
  refine F.ok scRSay (fun vs H Q E h => ?_) (fun cdv A outer s H vs Q E hr h => ?_)
  · obtain ⟨x, rfl, _⟩ := h
    rfl
  obtain ⟨x, rfl, xl, tb, k⟩ := h
  refine ⟨_, pss_cons (ps_for PassesOwn.never rfl (pi_kkeys (pe_glob (v := .ref S) (by rfl) C.gl rfl)) (pg_name (i := 1) scRSay.nd rfl (.inl rfl))
      (pss_cons (ps_asg (pe_partition (pv 0) (pe_ix ix_kdict (pe_glob (v := .ref S) (by rfl) C.gl rfl) (pv 1) (fun _ _ => rfl))) (pg_tup (by rfl) (pgs_cons (pg_name (i := 2) scRSay.nd rfl (.inl rfl)) <| pgs_cons (pg_name (i := 3) scRSay.nd rfl (.inl rfl)) <| pgs_cons (pg_name (i := 4) scRSay.nd rfl (.inl rfl)) pgs_nil))) <|
       pss_cons (ps_set (i := 5) scRSay.nd rfl (.inl rfl) (pe_call G hr rfl mG kG bG .nil pass0 (pa_cons (pv 4) pa_nil))) <|
       pss_one (ps_if (PW.pt (pw_and (pt_val (pe_call N hr rfl mN kN bN .nil pass0 (pa_cons (pv 2) pa_nil))) (pw_and1 (pt_cmpR op_notN (pv 5) pe_non (nomark _))))) (pss_one (ps_ret (pe_tup (pa_cons (pv 2) (pa_cons (pv 1) (pa_cons (pv 5) pa_nil)))))) pss_nil))) <|
    pss_one (ps_ret pe_non), ?_⟩
  have sl := sizeLine_eq
  refine ⟨S, _, rfl, C.ks, for_kk (zs := ["least", "most"]) (fun j σ H1 => ∃ v1 v2 v3 v4 v5 : Option V, σ = [some (.str x), v1, v2, v3, v4, v5] ∧ GrS Ps H H1 ∧ (1 ≤ j → sayS1 x ">=" "least" = none) ∧ (2 ≤ j → sayS1 x "<=" "most" = none))
    ⟨none, none, none, none, none, rfl, GrS.refl tb, by omega, by omega⟩ ?_ ?_⟩
  · rintro j y σ H1 hj ⟨v1, v2, v3, v4, v5, rfl, g1, hm1, hm2⟩
    have jc : (j = 0 ∧ y = "least" ∧ sgnS y = ">=") ∨ (j = 1 ∧ y = "most" ∧ sgnS y = "<=") := by
      match j, hj with
      | 0, e => exact .inl ⟨rfl, (Option.some.inj e).symm, by rw [← Option.some.inj e]; decide +kernel⟩
      | 1, e => exact .inr ⟨rfl, (Option.some.inj e).symm, by rw [← Option.some.inj e]; decide +kernel⟩
      | j + 2, e => simp at e
    have ys : y ∈ sorts2 := by
      rcases jc with ⟨_, e3, _⟩ | ⟨_, e3, _⟩ <;> rw [e3] <;> decide +kernel
    have sgl : ((sgnS y).length == 0) = false := by
      rcases jc with ⟨_, _, e3⟩ | ⟨_, _, e3⟩ <;> rw [e3] <;> decide +kernel
    have sgn : tl (sgnS y) ≠ [] := by
      rcases jc with ⟨_, _, e3⟩ | ⟨_, _, e3⟩ <;> rw [e3]
      · exact ge_ne
      · exact lq_ne
    -- what is found, or not
    have hit : ∀ t : Say, sayS1 x (sgnS y) y = some t → sayR x = some t := fun t e => by
      unfold sayR
      rcases jc with ⟨_, e2, e3⟩ | ⟨e1, e2, e3⟩
      · rw [e3, e2] at e
        rw [e]
      · rw [e3, e2] at e
        rw [hm1 (by omega)]
        exact e
    have miss : sayS1 x (sgnS y) y = none → (1 ≤ j + 1 → sayS1 x ">=" "least" = none) ∧ (2 ≤ j + 1 → sayS1 x "<=" "most" = none) := fun e => by
      rcases jc with ⟨e1, e2, e3⟩ | ⟨e1, e2, e3⟩
      · rw [e3, e2] at e
        exact ⟨fun _ => e, fun h => by omega⟩
      · rw [e3, e2] at e
        exact ⟨fun _ => hm1 (by omega), fun _ => e⟩
    refine ⟨_, rfl, ⟨_, rfl⟩, _, rfl, S, y, _, rfl, rfl, C.at ys, _, _, rfl, rfl, sgl, by omega, fun p hp => ?_⟩
    -- the three parts
    obtain ⟨a, m, r, epart, al, rl, sone⟩ : ∃ a m r : Str, Txt.partition x (sgnS y) = (a, m, r) ∧ a.length ≤ x.length ∧ r.length ≤ x.length ∧ sayS1 x (sgnS y) y = if (nameD (.str a) && (numW r).isSome) = true then some (a, y, (numW r).getD 0) else none := by
      rw [part_cut sgn]
      unfold sayS1
      cases e : cutM x (sgnS y) with
      | none => exact ⟨x, Str.empty, Str.empty, rfl, Nat.le_refl _, Nat.zero_le _, by rw [numW_empty]; simp⟩
      | some p =>
        obtain ⟨a, r⟩ := p
        have ap := congrArg List.length (cutM_app sgn e)
        rw [List.length_append, List.length_append, ← len_tl x, ← len_tl a, ← len_tl r] at ap
        exact ⟨a, sgnS y, r, rfl, by omega, by omega, rfl⟩
    rw [epart]
    have s2 := GrS.new g1.1 (GrS.refl g1.1) hp (o := .tup [.str a, .str m, .str r]) (by intro q z; cases z)
    refine ⟨p, _, rfl, SqT.of upd_same, rfl, _, _, rfl, _, _, rfl, _, _, rfl, rfl, ?_⟩
    have g2 := g1.trans s2
    show tSeq _ _ _ _ (L2.upd H1 p (.tup [.str a, .str m, .str r]))
    generalize L2.upd H1 p (.tup [.str a, .str m, .str r]) = H2 at g2
    refine ⟨_, rfl, r, rfl, by omega, g2.1 _ h1, fun H3 g3 => ?_⟩
    have g3' := g2.trans (GrS.of h1 g2.1 g3)
    refine ⟨_, rfl, _, _, rfl, .str a, g3'.1 _ h2, fun z e => by cases e; show a.length ≤ sizeLine; omega, fun H4 g4 => ?_⟩
    have g4' := g3'.trans (GrS.of h2 g3'.1 g4)
    refine ⟨_, rfl, ?_⟩
    cases nd' : nameD (.str a) with
    | false =>
      rw [nd'] at sone
      refine iteF (iteF ⟨_, _, _, _, _, rfl, g4', miss ?_⟩)
      rw [sone]
      rfl
    | true =>
      rw [nd'] at sone
      refine iteT ⟨_, rfl, rfl, _, rfl, ?_⟩
      cases en : numW r with
      | none =>
        rw [en] at sone
        exact iteF ⟨_, _, _, _, _, rfl, g4', miss (by rw [sone]; rfl)⟩
      | some i =>
        rw [en] at sone
        refine iteT ⟨_, rfl, _, rfl, _, rfl, by show 3 ≤ sizeLine; decide, fun q hq => ?_⟩
        refine k (.ref q) _ (GrS.new g4'.1 (GrS.refl g4'.1) hq (by intro q z; cases z) |> fun s => g4'.trans s) ?_
        rw [hit (a, y, i) (by rw [sone]; rfl)]
        exact ⟨q, rfl, upd_same⟩
  · rintro σ H1 ⟨v1, v2, v3, v4, v5, rfl, g1, hm1, hm2⟩
    refine k .non H1 g1 ?_
    unfold sayR
    rw [hm1 (by decide), hm2 (by decide)]
    rfl
end
end Pk
end
section
set_option maxHeartbeats 1000000
/-! read_numbers, read_sayings: of any words. -/
namespace Pk
open PySem PySem.Spec PyProof.Rows L2 TL
abbrev sRNums : Stmt := topH 32
abbrev sRSays : Stmt := topH 34
def spRNums (Ps : List Addr) : Sp := fun vs H Q _ => ∃ (l : Addr) (xs : List Str), vs = [.ref l] ∧ H l = some (.lst (xs.map V.str)) ∧ xs.length ≤ 4 ∧ (∀ x ∈ xs, x.length ≤ sizeLine) ∧ Tabs Ps H ∧
  ((∃ x ∈ xs, numW x = none) → ∀ H', GrS Ps H H' → Q .non H') ∧ ((∀ x ∈ xs, (numW x).isSome = true) → ∀ (q : Addr) (H' : Hp), GrS Ps H H' → H' q = some (.lst (xs.map fun x => vI (numW x))) → Q (.ref q) H')
theorem strs_get {xs : List Str} {i : Nat} {y : V} (h : (xs.map V.str)[i]? = some y) : ∃ x, y = .str x ∧ xs[i]? = some x := by
  rw [List.getElem?_map] at h
  obtain ⟨x, hx, e⟩ := Option.map_eq_some_iff.mp h
  exact ⟨x, e.symm, hx⟩
theorem nameD_nm {z : Str} (h : nameD (.str z) = true) : nmOk z := by
  rw [nameD_str, Bool.and_eq_true, Bool.and_eq_true, decide_eq_true_eq, decide_eq_true_eq, List.all_eq_true] at h
  exact ⟨by omega, fun c hc => h.2.2 c hc⟩
theorem lay_of {x : Str} : (oS (sayR x)).canLay0 = true ∧ (oS (sayR x)).depth ≤ 1 := by
  cases e : sayR x with
  | none => exact ⟨rfl, Nat.zero_le _⟩
  | some s =>
    obtain ⟨h1, h2⟩ := sayR_good e
    obtain ⟨z, so, i⟩ := s
    have n1 := (nm_str (nameD_nm h1)).1
    have n2 := (nm_str (sort_nm h2)).1
    refine ⟨?_, ?_⟩
    · show (PyData.tuple [.str z, .str so, .int i]).canLay0 = true
      simp only [PyData.canLay0, PyData.canLayAll0]
      simp only [Bool.and_eq_true]
      refine ⟨n1, n2, ?_⟩
      simp
    · show (PyData.tuple [.str z, .str so, .int i]).depth ≤ 1
      simp [PyData.depth, PyData.depthAll]
theorem layOs : ∀ xs : List Str, PyData.canLayAll0 (xs.map fun x => oS (sayR x)) = true ∧ PyData.depthAll (xs.map fun x => oS (sayR x)) ≤ 1
  | [] => ⟨rfl, by simp [PyData.depthAll]⟩
  | x :: xs => by
    obtain ⟨a, b⟩ := layOs xs
    obtain ⟨c, d⟩ := lay_of (x := x)
    refine ⟨?_, ?_⟩
    · rw [List.map_cons, PyData.canLayAll0, a, c]
      rfl
    · rw [List.map_cons, PyData.depthAll]
      omega
/-- sayings or Nones that words write -/
abbrev SaysO (H : Hp) (vs : List V) (xs : List Str) : Prop := Paired (fun v x => SayO H v (sayR x)) vs xs
theorem SaysO.tr {H : Hp} : ∀ {vs : List V} {xs : List Str}, SaysO H vs xs → TrAll H vs (xs.map fun x => oS (sayR x))
  | _, _, .nil => .nil
  | _, _, .cons h t => .cons h.tr (SaysO.tr t)
theorem none_any (xs : List Str) : ((xs.map fun x => oS (sayR x)).any fun z => PyData.eqv z .none) = xs.any fun x => (sayR x).isNone := by
  induction xs with
  | nil => rfl
  | cons x xs ih =>
    rw [List.map_cons, List.any_cons, List.any_cons, ih]
    cases sayR x <;> rfl
def spRSays (Ps : List Addr) : Sp := fun vs H Q _ => ∃ (l : Addr) (xs : List Str), vs = [.ref l] ∧ H l = some (.lst (xs.map V.str)) ∧ xs.length ≤ 1000 ∧ (∀ x ∈ xs, x.length ≤ sizeLine) ∧ Tabs Ps H ∧
  ((∃ x ∈ xs, sayR x = none) → ∀ H', GrS Ps H H' → Q .non H') ∧ ((∀ x ∈ xs, (sayR x).isSome = true) → ∀ (q : Addr) (ws : List V) (H' : Hp), GrS Ps H H' → H' q = some (.tup ws) → SaysO H' ws xs → Q (.ref q) H')
section
variable {P : Program} {w : World} {K : PySem.W.Frag} {mg : Str → Option Value} {base : Heap} {Ps : List Addr} {P1 P2 : Addr}
abbrev nRNums : List Str := ["words", "numbers", "word"]
theorem scRNums : FnScope nRNums ["words"] (defScope sRNums) := ⟨rfl, rfl, rfl, by decide +kernel, rfl, by decide +kernel, by decide +kernel⟩
theorem ok_rnums {f g : Addr} {fd gd : FuncData} (h1 : P1 ∈ Ps) (F : Fun K "read_numbers" "read_numbers" sRNums f fd) (G : FnOk P w K mg base CX0 2 g gd ["word"] (spRNum P1)) (bG : Binds K gd ["word"] []) (kG : PySem.W.keepIn K (.ref g) = true) (mG : mg "read_number" = some (.ref g)) :
    FnOk P w K mg base CX0 3 f fd ["words"] (spRNums Ps) := by
  refine F.ok scRNums (fun vs H Q E h => ?_) (fun cdv A outer s H vs Q E hr h => ?_)
  · obtain ⟨l, xs, rfl, _⟩ := h
    rfl
  obtain ⟨l, xs, rfl, hl, il, ib, tb, kn, ks⟩ := h
  refine ⟨_, pss_cons (ps_setLc (i := 1) (own := [("word", 2)]) (g := gName 2) (by rfl) scRNums.nd rfl rfl (sw_true rfl rfl rfl (by decide +kernel)) (pi_list (pv 0)) (blkOk_by (N := nRNums) (sc := defScope sRNums) (by decide +kernel)) (fun _ _ _ _ _ => pg_name (i := 2) scRNums.nd rfl (Or.inl rfl)) (fun _ _ _ _ _ => pts_nil) (fun _ _ _ _ _ => pe_call G hr rfl mG kG bG .nil pass0 (pa_cons (pv 2) pa_nil))) <|
    pss_one (ps_ret (pe_ifExp (pt_cmpR op_in_seq pe_non (pv 1) (by rfl)) pe_non (pv 1))), ?_⟩
  refine ⟨_, rfl, l, rfl, ⟨_, SqL.of hl⟩, fun D hD => lc_list (K := K) (a := l) (xs := xs.map V.str) (fun i H1 => H1 D = some (.lst ((xs.take i).map fun x => vI (numW x))) ∧ GrS Ps H H1)
    ⟨upd_same, GrS.new tb (GrS.refl tb) hD (by intro q z; cases z)⟩ (fun i H1 _ ⟨_, g1⟩ => SqL.of (g1.at tb hl (by intro q z; cases z))) ?_ ?_⟩
  · rintro i y H1 hy ⟨e1, g1⟩
    obtain ⟨x, rfl, hx⟩ := strs_get hy
    have il' : i < xs.length := (List.getElem?_eq_some_iff.mp hx).1
    refine ⟨rfl, _, rfl, x, rfl, ib x (List.mem_of_getElem? hx), g1.1 _ h1, fun H2 g2 => ?_⟩
    have gs := GrS.of h1 g1.1 g2
    have e2 := gs.at g1.1 e1 (by intro q z; cases z)
    refine ⟨_, e2, small1000 (by rw [List.length_map, List.length_take]; omega), ?_, GrS.new tb (g1.trans gs) hD (by intro q z; cases z)⟩
    rw [upd_same, take_more hx, List.map_append]
    rfl
  · rintro H1 ⟨e1, g1⟩
    rw [List.length_map, List.take_length] at e1
    refine ⟨_, rfl, D, _, rfl, .inl (SqL.of e1), rfl, ?_, ?_⟩
    · rw [List.all_eq_true]
      intro v hv
      obtain ⟨x, _, rfl⟩ := List.mem_map.mp hv
      cases numW x <;> rfl
    · have e : inV .non (xs.map fun x => vI (numW x)) = xs.any fun x => (numW x).isNone := by
        unfold inV
        rw [List.any_map]
        congr 1
        funext x
        show eqV (vI (numW x)) .non = _
        cases numW x <;> rfl
      refine ⟨_, rfl, ?_⟩
      show (fun b H => if b = true then _ else _) (inV .non (xs.map fun x => vI (numW x))) H1
      rw [e]
      cases c : xs.any fun x => (numW x).isNone with
      | true =>
        obtain ⟨x, hx, hn⟩ := List.any_eq_true.mp c
        exact iteT (kn ⟨x, hx, Option.isNone_iff_eq_none.mp hn⟩ H1 g1)
      | false =>
        rw [List.any_eq_false] at c
        exact iteF ⟨_, rfl, ks (fun x hx => by have := c x hx; cases h : numW x with | none => rw [h] at this; exact absurd rfl this | some _ => rfl) D H1 g1 e1⟩
abbrev nRSays : List Str := ["words", "sayings", "word"]
theorem scRSays : FnScope nRSays ["words"] (defScope sRSays) := ⟨rfl, rfl, rfl, by decide +kernel, rfl, by decide +kernel, by decide +kernel⟩
theorem ok_rsays {f g : Addr} {fd gd : FuncData} (F : Fun K "read_sayings" "read_sayings" sRSays f fd) (mT : mg "tuple" = none) (G : FnOk P w K mg base CX0 3 g gd ["word"] (spRSay Ps)) (bG : Binds K gd ["word"] []) (kG : PySem.W.keepIn K (.ref g) = true) (mG : mg "read_saying" = some (.ref g)) :
    FnOk P w K mg base CX0 4 f fd ["words"] (spRSays Ps) := by
  refine F.ok scRSays (fun vs H Q E h => ?_) (fun cdv A outer s H vs Q E hr h => ?_)
  · obtain ⟨l, xs, rfl, _⟩ := h
    rfl
  obtain ⟨l, xs, rfl, hl, il, ib, tb, kn, ks⟩ := h
  have hu65 : (A.deeper (PyProof.Rows.envOfC "read_sayings" (defScope sRSays) s.heap.objs.size f cdv)).units + 65 < cLine := by
    have := hr.un
    omega
  refine ⟨_, pss_cons (ps_setLc (i := 1) (own := [("word", 2)]) (g := gName 2) (by rfl) scRSays.nd rfl rfl (sw_true rfl rfl rfl (by decide +kernel)) (pi_list (pv 0)) (blkOk_by (N := nRSays) (sc := defScope sRSays) (by decide +kernel)) (fun _ _ _ _ _ => pg_name (i := 2) scRSays.nd rfl (Or.inl rfl)) (fun _ _ _ _ _ => pts_nil) (fun _ _ _ _ _ => pe_call G hr rfl mG kG bG .nil pass0 (pa_cons (pv 2) pa_nil))) <|
    pss_one (ps_ret (pe_ifExp (pt_cmpR (op_inD hu65) pe_non (pv 1) (by rfl)) pe_non (pe_callTy call_tuple_of (by rfl) mT (by decide +kernel) (pa_cons (pv 1) pa_nil)))), ?_⟩
  refine ⟨_, rfl, l, rfl, ⟨_, SqL.of hl⟩, fun D hD => lc_list (K := K) (a := l) (xs := xs.map V.str) (fun i H1 => ∃ ws : List V, H1 D = some (.lst ws) ∧ SaysO H1 ws (xs.take i) ∧ GrS Ps H H1)
    ⟨[], upd_same, .nil, GrS.new tb (GrS.refl tb) hD (by intro q z; cases z)⟩ (fun i H1 _ ⟨_, _, _, g1⟩ => SqL.of (g1.at tb hl (by intro q z; cases z))) ?_ ?_⟩
  · rintro i y H1 hy ⟨ws, e1, p1, g1⟩
    obtain ⟨x, rfl, hx⟩ := strs_get hy
    have il' : i < xs.length := (List.getElem?_eq_some_iff.mp hx).1
    have al := p1.length
    rw [List.length_take] at al
    refine ⟨rfl, _, rfl, x, rfl, ib x (List.mem_of_getElem? hx), g1.1, fun v H2 g2 sv => ?_⟩
    have e2 := g2.at g1.1 e1 (by intro q z; cases z)
    refine ⟨_, e2, small1000 (by omega), ws ++ [v], by rw [upd_same], ?_, GrS.new tb (g1.trans g2) hD (by intro q z; cases z)⟩
    rw [take_more hx]
    exact .snoc (L2.Paired.mapP p1 fun v x h => (h.grs g1.1 g2).upd e2) (sv.upd e2)
  · rintro H1 ⟨ws, e1, p1, g1⟩
    rw [List.length_map, List.take_length] at p1
    have tr := SaysO.tr p1
    obtain ⟨la, ld⟩ := layOs xs
    have wl : (PyData.list (xs.map fun x => oS (sayR x))).canLay0 = true := by rw [PyData.canLay0]; exact la
    have wd : (PyData.list (xs.map fun x => oS (sayR x))).depth ≤ 2 := by rw [PyData.depth]; omega
    refine ⟨_, rfl, .none, xs.map fun x => oS (sayR x), Tr.dp .non rfl, Tr.dp (.lst e1 tr) (noDict_of wl), rfl, shaped_of wl (by omega), ?_⟩
    rw [none_any]
    cases c : xs.any fun x => (sayR x).isNone with
    | true =>
      obtain ⟨x, hx, hn⟩ := List.any_eq_true.mp c
      exact ⟨_, rfl, iteT (kn ⟨x, hx, Option.isNone_iff_eq_none.mp hn⟩ H1 g1)⟩
    | false =>
      rw [List.any_eq_false] at c
      refine ⟨_, rfl, iteF ⟨_, rfl, D, _, rfl, .inl ⟨SqL.of e1, fun t ht => ?_⟩⟩⟩
      refine ks (fun x hx => by have := c x hx; cases h : sayR x with | none => rw [h] at this; exact absurd rfl this | some _ => rfl) t ws _ (g1.trans (GrS.new g1.1 (GrS.refl g1.1) ht (by intro q z; cases z))) upd_same (L2.Paired.mapP p1 fun v x h => ?_)
      exact h.grs g1.1 (GrS.new g1.1 (GrS.refl g1.1) ht (by intro q z; cases z))
end
end Pk
end
section
set_option maxHeartbeats 1000000
/-! read_rule, read_dial: of any words. -/
namespace Pk
open PySem PySem.Spec PyProof.Rows L2 TL
abbrev sRRule : Stmt := topH 35
abbrev sRDial : Stmt := topH 38
def spRRule (Ps : List Addr) : Sp := fun vs H Q _ => ∃ (l : Addr) (ws : List Str), vs = [.ref l] ∧ H l = some (.lst (ws.map V.str)) ∧ (∀ x ∈ ws, x.length ≤ sizeLine) ∧ Tabs Ps H ∧
  (readR ws = none → ∀ H', GrS Ps H H' → Q .non H') ∧ (∀ r, readR ws = some r → ∀ (t : Addr) (H' : Hp), GrS Ps H H' → Tr H' (.ref t) (ruleP r) → Q (.ref t) H')
def spRDial (Ps : List Addr) : Sp := fun vs H Q _ => ∃ (l : Addr) (ws : List Str), vs = [.ref l] ∧ H l = some (.lst (ws.map V.str)) ∧ (∀ x ∈ ws, x.length ≤ sizeLine) ∧ Tabs Ps H ∧
  (readD ws = none → ∀ H', GrS Ps H H' → Q .non H') ∧ (∀ d, readD ws = some d → ∀ (t : Addr) (H' : Hp), GrS Ps H H' → Tr H' (.ref t) (dialP d) → Q (.ref t) H')
theorem len3 {α : Type} {l : List α} (h : l.length = 3) : ∃ a b c, l = [a, b, c] := by
  match l, h with
  | [a, b, c], _ => exact ⟨a, b, c, rfl⟩
theorem len4 {α : Type} {l : List α} (h : l.length = 4) : ∃ a b c d, l = [a, b, c, d] := by
  match l, h with
  | [a, b, c, d], _ => exact ⟨a, b, c, d, rfl⟩
theorem len7 {α : Type} {l : List α} (h : l.length = 7) : ∃ a b c d e f g, l = [a, b, c, d, e, f, g] := by
  match l, h with
  | [a, b, c, d, e, f, g], _ => exact ⟨a, b, c, d, e, f, g, rfl⟩
theorem readR_len {ws : List Str} (h3 : ws.length ≠ 3) (h4 : ws.length ≠ 4) : readR ws = none := by
  unfold readR
  split
  · exact absurd rfl h3
  · exact absurd rfl h4
  · rfl
theorem readD_len {ws : List Str} (h : ws.length ≠ 7) : readD ws = none := by
  unfold readD
  split
  · exact absurd rfl h
  · rfl
theorem len_dec (ws : List Str) (n : Nat) : decide (V.int (((ws.map V.str).length : Nat) : Int) = V.int (n : Int)) = decide (ws.length = n) := by
  rw [List.length_map, Bool.eq_iff_iff, decide_eq_true_eq, decide_eq_true_eq]
  exact ⟨fun z => by have := V.int.inj z; omega, fun z => by rw [z]⟩
section
variable {P : Program} {w : World} {K : PySem.W.Frag} {mg : Str → Option Value} {base : Heap} {Ps : List Addr} {P1 P2 W S R : Addr}
abbrev nRRule : List Str := ["words", "sayings", "word", "a", "b", "figures", "c"]
theorem scRRule : FnScope nRRule ["words"] (defScope sRRule) := ⟨rfl, rfl, rfl, by decide +kernel, rfl, by decide +kernel, by decide +kernel⟩
theorem ok_rrule {f g n y : Addr} {fd gd nd yd : FuncData} (h1 : P1 ∈ Ps) (h2 : P2 ∈ Ps) (F : Fun K "read_rule" "read_rule" sRRule f fd) (C : Cons K mg W S R) (B : BltH mg)
    (G : FnOk P w K mg base CX0 2 g gd ["word"] (spRNum P1)) (bG : Binds K gd ["word"] []) (kG : PySem.W.keepIn K (.ref g) = true) (mG : mg "read_number" = some (.ref g))
    (N : FnOk P w K mg base CX0 2 n nd ["thing"] (spIsName P2)) (bN : Binds K nd ["thing"] []) (kN : PySem.W.keepIn K (.ref n) = true) (mN : mg "is_name" = some (.ref n))
    (Y : FnOk P w K mg base CX0 4 y yd ["words"] (spRSays Ps)) (bY : Binds K yd ["words"] []) (kY : PySem.W.keepIn K (.ref y) = true) (mY : mg "read_sayings" = some (.ref y)) :
    FnOk P w K mg base CX0 5 f fd ["words"] (spRRule Ps) := by
  refine F.ok scRRule (fun vs H Q E h => ?_) (fun cdv A outer s H vs Q E hr h => ?_)
  · obtain ⟨l, ws, rfl, _⟩ := h
    rfl
  obtain ⟨l, ws, rfl, hl, wl, tb, kn, ks⟩ := h
  have hu := hu_of hr
  have hr2 : Room 2 _ := hr.mono (by decide)
  refine ⟨_, pss_cons (ps_if (PW.pt (pw_and (pt_cmpR op_eq (pe_callB call_len_seq (by rfl) B.len PySem.boot_len (pa_cons (pv 0) pa_nil)) pe_int (nomark _)) (pw_and1 (pt_cmpR op_eq (pe_ix ix_list (pv 0) pe_int (fun _ _ => rfl)) pe_str (nomark _)))))
      (pss_cons (ps_set (i := 1) scRRule.nd rfl (.inl rfl) (pe_call Y hr rfl mY kY bY .nil pass0 (pa_cons (pe_slice sl_list (pv 0) (po_some pe_int) po_none) pa_nil)))
       (pss_one (ps_ret (pe_ifExp (pt_cmpR op_isN (pv 1) pe_non (nomark _)) pe_non (pe_op op_catT (pe_tup (pa_cons pe_str pa_nil)) (pv 1)))))) pss_nil) <|
    pss_cons (ps_if (PW.pt (pw_or (pt_cmpR op_ne (pe_callB call_len_seq (by rfl) B.len PySem.boot_len (pa_cons (pv 0) pa_nil)) pe_int (nomark _)) (pw_or1 (pt_cmpR (op_notInS hu) (pe_ix ix_list (pv 0) pe_int (fun _ _ => rfl)) (pe_glob (v := .ref R) (by rfl) C.mR rfl) (by rfl))))) (pss_one (ps_ret pe_non)) pss_nil) <|
    pss_cons (ps_asg (pv 0) (pg_lst (by rfl) (pgs_cons (pg_name (i := 2) scRRule.nd rfl (.inl rfl)) <| pgs_cons (pg_name (i := 3) scRRule.nd rfl (.inl rfl)) <| pgs_cons (pg_name (i := 4) scRRule.nd rfl (.inl rfl)) <| pgs_cons (pg_name (i := 5) scRRule.nd rfl (.inl rfl)) pgs_nil))) <|
    pss_cons (ps_set (i := 6) scRRule.nd rfl (.inl rfl) (pe_call G hr2 rfl mG kG bG .nil pass0 (pa_cons (pv 5) pa_nil))) <|
    pss_cons (ps_if (PW.pt (pw_or (pt_not (pt_val (pe_call N hr2 rfl mN kN bN .nil pass0 (pa_cons (pv 3) pa_nil)))) (pw_or (pt_not (pt_val (pe_call N hr2 rfl mN kN bN .nil pass0 (pa_cons (pv 4) pa_nil)))) (pw_or1 (pt_cmpR op_isN (pv 6) pe_non (nomark _)))))) (pss_one (ps_ret pe_non)) pss_nil) <|
    pss_one (ps_ret (pe_tup (pa_cons (pv 2) (pa_cons (pv 3) (pa_cons (pv 4) (pa_cons (pv 6) pa_nil)))))), ?_⟩
  have sl := sizeLine_eq
  -- the second test, where there are no four words
  by_cases l3 : ws.length = 3
  · obtain ⟨w', a, b, rfl⟩ := len3 l3
    have hl' : H l = some (.lst [.str w', .str a, .str b]) := hl
    refine ⟨_, rfl, l, _, rfl, .inl (SqL.of hl'), rfl, _, rfl, iteT ⟨_, rfl, l, _, _, _, rfl, rfl, SqL.of hl', rfl, rfl, _, rfl, ?_⟩⟩
    by_cases c1 : w' = "one"
    · subst c1
      refine iteT ⟨_, rfl, 1, rfl, l, _, rfl, SqL.of hl', fun d hd => ?_⟩
      have s2' := sameNew hd (.lst (cutV [.str "one", .str a, .str b] (some 1) none))
      refine ⟨d, [a, b], rfl, upd_same, by show 2 ≤ 1000; decide, fun x hx => wl x (List.mem_cons_of_mem _ hx), tb.same s2', fun ⟨x, hx, hn⟩ H' g => ?_, fun al q us H' g hq p => ?_⟩
      · refine ⟨_, rfl, rfl, _, rfl, iteT (kn ?_ H' ((GrS.same tb s2').trans g))⟩
        show (if ("one" : Str) = "one" then (match sayR a, sayR b with | some s, some t => some (Rw.one s t) | _, _ => none) else none) = none
        rw [if_pos rfl]
        simp only [List.mem_cons, List.not_mem_nil, or_false] at hx
        rcases hx with rfl | rfl
        · rw [hn]
        · rw [hn]
          cases sayR a <;> rfl
      · have g0 : GrS Ps H H' := (GrS.same tb s2').trans g
        obtain ⟨s1, e1⟩ := Option.isSome_iff_exists.mp (al a (by simp))
        obtain ⟨s2, e2⟩ := Option.isSome_iff_exists.mp (al b (by simp))
        match us, p with
        | [u1, u2], .cons p1 (.cons p2 .nil) =>
        rw [e1] at p1
        rw [e2] at p2
        obtain ⟨a1, rfl, p1⟩ := p1
        obtain ⟨a2, rfl, p2⟩ := p2
        refine ⟨_, rfl, rfl, _, rfl, iteF ⟨by show 1 ≤ sizeLine; decide, fun e he => ?_⟩⟩
        have s3 := sameNew he (.tup [V.str "one"])
        refine ⟨_, rfl, e, q, _, _, rfl, rfl, SqT.of upd_same, SqT.of (s3 _ _ hq), by simp, by show 1 + 2 ≤ sizeLine; decide, fun z => (by cases z), fun _ t ht => ?_⟩
        have s4 := sameNew ht (.tup ([V.str "one"] ++ [V.ref a1, V.ref a2]))
        have s34 := s3.trans s4
        refine ks (.one s1 s2) ?_ t _ (g0.trans (GrS.same g0.1 s34)) (.tup upd_same (.cons (.str _) (.cons (.tup (s34 _ _ p1) ?_) (.cons (.tup (s34 _ _ p2) ?_) .nil))))
        · show (if ("one" : Str) = "one" then (match sayR a, sayR b with | some s, some t => some (Rw.one s t) | _, _ => none) else none) = _
          rw [if_pos rfl, e1, e2]
        · exact .cons (.str _) (.cons (.str _) (.cons (.int _) .nil))
        · exact .cons (.str _) (.cons (.str _) (.cons (.int _) .nil))
    · rw [decide_eq_false (show ¬ V.str w' = V.str "one" from fun z => c1 (V.str.inj z))]
      have no : readR [w', a, b] = none := by
        show (if w' = "one" then _ else none) = none
        rw [if_neg c1]
      have fin := kn no H (GrS.refl tb)
      refine iteF ⟨_, rfl, l, _, rfl, .inl (SqL.of hl'), rfl, _, rfl, ?_⟩
      exact iteT (iteT fin)
  by_cases l4 : ws.length = 4
  · obtain ⟨w', x, y, fg, rfl⟩ := len4 l4
    have hl' : H l = some (.lst [.str w', .str x, .str y, .str fg]) := hl
    have rd : readR [w', x, y, fg] = if inS pairs3 (.str w') && (nameD (.str x) && nameD (.str y)) then (match numW fg with | some c => some (.two w' x y c) | none => none) else none := rfl
    rw [rd] at kn ks
    refine ⟨_, rfl, l, _, rfl, .inl (SqL.of hl'), rfl, _, rfl, iteF (iteF ⟨_, rfl, l, _, rfl, .inl (SqL.of hl'), rfl, _, rfl, iteF ⟨_, rfl, l, _, _, _, rfl, rfl, SqL.of hl', rfl, .str w', R, pairs3, .str w', rfl, .inr (C.pairs H), _, rfl, ?_⟩⟩)⟩
    have e0 : (pairs3.any fun z => strIs z (.str w')) = inS pairs3 (.str w') := rfl
    rw [e0]
    cases pn : inS pairs3 (.str w') with
    | false =>
      rw [pn] at kn
      exact iteT (kn (by rfl) H (GrS.refl tb))
    | true =>
    rw [pn] at kn ks
    refine iteF ⟨_, rfl, l, _, rfl, SqL.of hl', rfl, _, _, rfl, _, _, rfl, _, _, rfl, _, _, rfl, rfl, ?_⟩
    refine ⟨_, rfl, _, rfl, wl fg (by simp), tb _ h1, fun H1 g1 => ?_⟩
    have g1' := GrS.of h1 tb g1
    refine ⟨_, rfl, _, _, rfl, .str x, g1'.1 _ h2, fun z e => by cases e; have := wl x (by simp); omega, fun H2 g2 => ?_⟩
    have g2' := g1'.trans (GrS.of h2 g1'.1 g2)
    cases xn : nameD (.str x) with
    | false =>
      rw [xn] at kn
      exact ⟨_, rfl, iteT (iteT (kn (by rfl) H2 g2'))⟩
    | true =>
    refine ⟨_, rfl, iteF ⟨_, rfl, _, _, rfl, .str y, g2'.1 _ h2, fun z e => by cases e; have := wl y (by simp); omega, fun H3 g3 => ?_⟩⟩
    have g3' := g2'.trans (GrS.of h2 g2'.1 g3)
    cases yn : nameD (.str y) with
    | false =>
      rw [xn, yn] at kn
      exact ⟨_, rfl, iteT (iteT (kn (by rfl) H3 g3'))⟩
    | true =>
    rw [xn, yn] at kn ks
    refine ⟨_, rfl, iteF ⟨_, rfl, rfl, _, rfl, ?_⟩⟩
    cases en : numW fg with
    | none =>
      rw [en] at kn
      exact iteT (kn (by rfl) H3 g3')
    | some c =>
      rw [en] at ks
      refine iteF ⟨_, rfl, _, rfl, _, rfl, _, rfl, by show 4 ≤ sizeLine; decide, fun t ht => ?_⟩
      exact ks _ (by rfl) t _ (g3'.trans (GrS.same g3'.1 (sameNew ht _))) (.tup upd_same (.cons (.str _) (.cons (.str _) (.cons (.str _) (.cons (.int _) .nil)))))
  refine ⟨_, rfl, l, _, rfl, .inl (SqL.of hl), rfl, _, rfl, ?_⟩
  rw [show decide (V.int (((ws.map V.str).length : Nat) : Int) = V.int 3) = false from (len_dec ws 3).trans (decide_eq_false l3)]
  refine iteF (iteF ⟨_, rfl, l, _, rfl, .inl (SqL.of hl), rfl, _, rfl, ?_⟩)
  rw [show decide (V.int (((ws.map V.str).length : Nat) : Int) = V.int 4) = false from (len_dec ws 4).trans (decide_eq_false l4)]
  exact iteT (iteT (kn (readR_len l3 l4) H (GrS.refl tb)))
abbrev nRDial : List Str := ["words", "word", "name", "low", "high", "way", "up", "down", "numbers"]
theorem scRDial : FnScope nRDial ["words"] (defScope sRDial) := ⟨rfl, rfl, rfl, by decide +kernel, rfl, by decide +kernel, by decide +kernel⟩
theorem ok_rdial {f g n : Addr} {fd gd nd : FuncData} (h2 : P2 ∈ Ps) (F : Fun K "read_dial" "read_dial" sRDial f fd) (C : Cons K mg W S R) (B : BltH mg) (m7 : ∃ t, mg "DIAL_WORDS" = some (.int 7 t))
    (G : FnOk P w K mg base CX0 3 g gd ["words"] (spRNums Ps)) (bG : Binds K gd ["words"] []) (kG : PySem.W.keepIn K (.ref g) = true) (mG : mg "read_numbers" = some (.ref g))
    (N : FnOk P w K mg base CX0 2 n nd ["thing"] (spIsName P2)) (bN : Binds K nd ["thing"] []) (kN : PySem.W.keepIn K (.ref n) = true) (mN : mg "is_name" = some (.ref n)) :
    FnOk P w K mg base CX0 4 f fd ["words"] (spRDial Ps) := by
  refine F.ok scRDial (fun vs H Q E h => ?_) (fun cdv A outer s H vs Q E hr h => ?_)
  · obtain ⟨l, ws, rfl, _⟩ := h
    rfl
  obtain ⟨l, ws, rfl, hl, wl, tb, kn, ks⟩ := h
  obtain ⟨tk, h7⟩ := m7
  have hu := hu_of hr
  have hr2 : Room 2 _ := hr.mono (by decide)
  refine ⟨_, pss_cons (ps_if (PW.pt (pw_or (pt_cmpR op_ne (pe_callB call_len_seq (by rfl) B.len PySem.boot_len (pa_cons (pv 0) pa_nil)) (pe_glob (v := .int 7) (by rfl) h7 ⟨_, rfl⟩) (nomark _)) (pw_or1 (pt_cmpR op_ne (pe_ix ix_list (pv 0) pe_int (fun _ _ => rfl)) pe_str (nomark _))))) (pss_one (ps_ret pe_non)) pss_nil) <|
    pss_cons (ps_asg (pv 0) (pg_lst (by rfl) (pgs_cons (pg_name (i := 1) scRDial.nd rfl (.inl rfl)) <| pgs_cons (pg_name (i := 2) scRDial.nd rfl (.inl rfl)) <| pgs_cons (pg_name (i := 3) scRDial.nd rfl (.inl rfl)) <| pgs_cons (pg_name (i := 4) scRDial.nd rfl (.inl rfl)) <| pgs_cons (pg_name (i := 5) scRDial.nd rfl (.inl rfl)) <| pgs_cons (pg_name (i := 6) scRDial.nd rfl (.inl rfl)) <| pgs_cons (pg_name (i := 7) scRDial.nd rfl (.inl rfl)) pgs_nil))) <|
    pss_cons (ps_set (i := 8) scRDial.nd rfl (.inl rfl) (pe_call G hr rfl mG kG bG .nil pass0 (pa_cons (pe_lst (pa_cons (pv 3) (pa_cons (pv 4) (pa_cons (pv 6) (pa_cons (pv 7) pa_nil))))) pa_nil))) <|
    pss_cons (ps_if (PW.pt (pw_or (pt_not (pt_val (pe_call N hr2 rfl mN kN bN .nil pass0 (pa_cons (pv 2) pa_nil)))) (pw_or (pt_cmpR (op_notInS hu) (pv 5) (pe_glob (v := .ref W) (by rfl) C.mW rfl) (by rfl)) (pw_or1 (pt_cmpR op_isN (pv 8) pe_non (nomark _)))))) (pss_one (ps_ret pe_non)) pss_nil) <|
    pss_one (ps_ret (pe_tup (pa_cons (pv 2) (pa_cons (pe_ix ix_list (pv 8) pe_int (fun _ _ => rfl)) (pa_cons (pe_ix ix_list (pv 8) pe_int (fun _ _ => rfl)) (pa_cons (pv 5) (pa_cons (pe_ix ix_list (pv 8) pe_int (fun _ _ => rfl)) (pa_cons (pe_ix ix_list (pv 8) pe_int (fun _ _ => rfl)) pa_nil)))))))), ?_⟩
  have sl := sizeLine_eq
  by_cases l7 : ws.length = 7
  · obtain ⟨d', nm, lo, hi, way, up, dwn, rfl⟩ := len7 l7
    have hl' : H l = some (.lst [.str d', .str nm, .str lo, .str hi, .str way, .str up, .str dwn]) := hl
    have rd : readD [d', nm, lo, hi, way, up, dwn] = if decide (d' = "dial") && (nameD (.str nm) && inS ways3 (.str way)) then (match numW lo, numW hi, numW up, numW dwn with | some a, some b, some c, some e => some ⟨nm, a, b, way, c, e⟩ | _, _, _, _ => none) else none := rfl
    rw [rd] at kn ks
    refine ⟨_, rfl, l, _, rfl, .inl (SqL.of hl'), rfl, _, rfl, iteF ⟨_, rfl, l, _, _, _, rfl, rfl, SqL.of hl', rfl, rfl, _, rfl, ?_⟩⟩
    by_cases c1 : d' = "dial"
    case neg =>
      rw [decide_eq_false c1] at kn
      rw [decide_eq_false (show ¬ V.str d' = V.str "dial" from fun z => c1 (V.str.inj z))]
      exact iteT (kn (by rfl) H (GrS.refl tb))
    subst c1
    refine iteF ?_
    refine ⟨_, rfl, l, _, rfl, SqL.of hl', rfl, _, _, rfl, _, _, rfl, _, _, rfl, _, _, rfl, _, _, rfl, _, _, rfl, _, _, rfl, rfl, ?_⟩
    refine ⟨_, rfl, _, rfl, _, rfl, _, rfl, by show 4 ≤ sizeLine; decide, fun e he => ?_⟩
    have s1 := sameNew he (.lst [V.str lo, V.str hi, V.str up, V.str dwn])
    have g0 := GrS.same tb s1
    refine ⟨e, [lo, hi, up, dwn], rfl, upd_same, Nat.le_refl _, fun x hx => ?_, tb.same s1, fun ⟨x, hx, hn⟩ H1 g1 => ?_, fun al q H1 g1 hq => ?_⟩
    · simp only [List.mem_cons, List.not_mem_nil, or_false] at hx
      rcases hx with rfl | rfl | rfl | rfl <;> exact wl _ (by simp)
    · have g1' := g0.trans g1
      have none_ : ∀ b : Bool, (if b = true then (match numW lo, numW hi, numW up, numW dwn with | some a, some b, some c, some e => some (⟨nm, a, b, way, c, e⟩ : Dw) | _, _, _, _ => none) else none) = none := fun b => by
        cases b with
        | false => rfl
        | true =>
          simp only [List.mem_cons, List.not_mem_nil, or_false] at hx
          rw [if_pos rfl]
          rcases hx with rfl | rfl | rfl | rfl <;> rw [hn]
          · cases numW lo <;> rfl
          · cases numW lo <;> cases numW hi <;> rfl
          · cases numW lo <;> cases numW hi <;> cases numW up <;> rfl
      refine ⟨_, rfl, _, _, rfl, .str nm, g1'.1 _ h2, fun z e => by cases e; have := wl nm (by simp); omega, fun H2 g2 => ?_⟩
      have g2' := g1'.trans (GrS.of h2 g1'.1 g2)
      have fin := kn (none_ _) H2 g2'
      cases nameD (.str nm) with
      | false => exact ⟨_, rfl, iteT (iteT fin)⟩
      | true =>
      refine ⟨_, rfl, iteF ⟨_, rfl, .str way, W, ways3, .str way, rfl, .inr (C.ways H2), _, rfl, ?_⟩⟩
      have e0 : (ways3.any fun z => strIs z (.str way)) = inS ways3 (.str way) := rfl
      rw [e0]
      cases inS ways3 (.str way) with
      | false => exact iteT (iteT fin)
      | true => exact iteF ⟨_, rfl, rfl, _, rfl, iteT fin⟩
    · have g1' := g0.trans g1
      obtain ⟨a1, n1⟩ := Option.isSome_iff_exists.mp (al lo (by simp))
      obtain ⟨a2, n2⟩ := Option.isSome_iff_exists.mp (al hi (by simp))
      obtain ⟨a3, n3⟩ := Option.isSome_iff_exists.mp (al up (by simp))
      obtain ⟨a4, n4⟩ := Option.isSome_iff_exists.mp (al dwn (by simp))
      have hq' : H1 q = some (.lst [.int a1, .int a2, .int a3, .int a4]) := by
        rw [hq]
        show some (HO.lst [vI (numW lo), vI (numW hi), vI (numW up), vI (numW dwn)]) = _
        rw [n1, n2, n3, n4]
        rfl
      rw [n1, n2, n3, n4] at ks
      refine ⟨_, rfl, _, _, rfl, .str nm, g1'.1 _ h2, fun z e => by cases e; have := wl nm (by simp); omega, fun H2 g2 => ?_⟩
      have g2s := GrS.of h2 g1'.1 g2
      have g2' := g1'.trans g2s
      have hq2 := g2s.at g1'.1 hq' (by intro q z; cases z)
      cases nn : nameD (.str nm) with
      | false =>
        rw [nn] at kn
        exact ⟨_, rfl, iteT (iteT (kn (by rfl) H2 g2'))⟩
      | true =>
      refine ⟨_, rfl, iteF ⟨_, rfl, .str way, W, ways3, .str way, rfl, .inr (C.ways H2), _, rfl, ?_⟩⟩
      have e0 : (ways3.any fun z => strIs z (.str way)) = inS ways3 (.str way) := rfl
      rw [e0]
      cases ww : inS ways3 (.str way) with
      | false =>
        rw [nn, ww] at kn
        exact iteT (iteT (kn (by rfl) H2 g2'))
      | true =>
      rw [nn, ww] at ks
      refine iteF ⟨_, rfl, rfl, _, rfl, iteF ⟨_, rfl, _, rfl, q, _, _, _, rfl, rfl, SqL.of hq2, rfl, _, rfl, q, _, _, _, rfl, rfl, SqL.of hq2, rfl, _, rfl, _, rfl, q, _, _, _, rfl, rfl, SqL.of hq2, rfl, _, rfl, q, _, _, _, rfl, rfl, SqL.of hq2, rfl, by show 6 ≤ sizeLine; decide, fun t ht => ?_⟩⟩
      exact ks _ (by rfl) t _ (g2'.trans (GrS.same g2'.1 (sameNew ht _))) (.tup upd_same (.cons (.str _) (.cons (.int _) (.cons (.int _) (.cons (.str _) (.cons (.int _) (.cons (.int _) .nil)))))))
  · refine ⟨_, rfl, l, _, rfl, .inl (SqL.of hl), rfl, _, rfl, ?_⟩
    rw [show decide (V.int (((ws.map V.str).length : Nat) : Int) = V.int 7) = false from (len_dec ws 7).trans (decide_eq_false l7)]
    exact iteT (iteT (kn (readD_len l7) H (GrS.refl tb)))
end
end Pk
end
section
set_option maxHeartbeats 2000000
/-! try .. except X as n .. (more clauses), where the first clause takes whatever comes. -/
namespace Pk
open PySem PySem.Spec PyProof.Rows L2
def wFirst (K : PySem.W.Frag) (c : Value) (i : Nat) (ts : Addr → Value → Option Addr → TS) (D : Ends) : WX := fun cls d σ H =>
  PySem.W.exmOne K cls c = some true ∧ ∀ a, H a = none → ts a cls d { nx := fun σ' H' => D.nx (σ'.set i none) H', rt := D.rt, bk := fun σ' H' => D.bk (σ'.set i none) H', ct := fun σ' H' => D.ct (σ'.set i none) H' } (σ.set i (some (.ref a))) H
section
variable {X : Cx} {x n : Str} {c : Value} {i : Nat} {body suite : List Stmt} {b0 : Stmt} {np pos pos' : Pos} {tb : WX → TS} {ts : Addr → Value → Option Addr → TS}
theorem ps_try_first {rest : List ExceptHandler} (hs : X.stack = X.env :: X.outer) (hf : X.env.frame = some X.env.locals) (hN : X.N.Nodup) (hi : X.N[i]? = some n) (hln : X.env.kindOf n = some .local) (hc : Names X x c)
    (hb : ∀ (W : WX) (pn : List (Addr × Obj)) (xe : Value → Shared → Prop), Takes (X.tr pn xe) W → PassesOwn (model X.prog X.w) X.A X.env xe → PSs (X.tr pn xe) body (tb W))
    (hsu : ∀ (a : Addr) (oe : Obj) (cls : Value) (d : Option Addr) (pn : List (Addr × Obj)), Zc cls d oe → (∃ vs, oe.data = .fields vs) → PSs (X.suite a ((a, oe) :: pn)) (b0 :: suite) (ts a cls d)) :
    PS X (.Try body (.ExceptHandler (some (.Name x np)) (some n) (b0 :: suite) pos' :: rest) [] [] pos) (fun D σ H => tb (wFirst X.K c i ts D) D σ H) := by
  refine ⟨fun pins s σ H D I h => ?_⟩
  have ok := I.ok
  have hfr : X.A.frames = some (X.env :: X.outer) := by rw [ok.frames, hs]
  refine wpAny_Try_except (wpAny_mono ((hb (wFirst X.K c i ts D) (X.pn ++ pins) (fun e u1 => wpAny (model X.prog X.w) X.A (noteFrame e X.env) (fun _ u2 => wpAny (model X.prog X.w) X.A (setFlight e none) (fun _ u3 =>
    wpAny (model X.prog X.w) X.A (handleBy e X.env (.ExceptHandler (some (.Name x np)) (some n) (b0 :: suite) pos' :: rest)) (SP X pins D) X.xe u3) X.xe u2) X.xe u1) (fun u s' xx => ?_) PassesOwn.looking).run [] s σ H D (I.toTry _) h) (fun f s1 hsp => ?_) (fun e s1 he => he))
  · obtain ⟨a, B, sI, pins', σ', H', cls, d, rfl, J', nb, up, sky, na, os, ag, hb1, hyes⟩ := xx
    have J : L2.Inv X pins σ' H' sI := J'.ofTry ok
    show wpAny (model X.prog X.w) X.A (noteFrame (.ref a) X.env) _ _ _
    refine Sky.land Zc.steady hfr hf (show Sky B (X.env :: X.outer) a (Zc cls d) X.env.locals s'.heap by rw [← hs]; exact sky) fun h3 fl3 up3 => ?_
    have J3 : L2.Inv X pins σ' H' { s' with heap := h3 } := J.landed nb fl3.1 (up.trans up3) os ag
    obtain ⟨oe3, vs3, he3, hz3, hd3⟩ := fl3.there
    have nfr : a ∉ frs (X.env :: X.outer) := fun hm => by
      obtain ⟨_, o', e', hnf⟩ := fl3.2.2.1.mem hm
      rw [he3] at e'
      cases e'
      exact hnf _ hd3
    have nL : a ≠ X.env.locals := fun z => nfr (List.mem_filterMap.mpr ⟨X.env, List.mem_cons_self, by rw [hf, z]⟩)
    have nF : a ∉ X.fs := fun hm => by
      obtain ⟨e, he, q⟩ := List.mem_filterMap.mp hm
      exact nfr (List.mem_filterMap.mpr ⟨e, List.mem_cons_of_mem _ he, q⟩)
    have S3 := J3.suite he3 hd3 na nL nF
    refine wpAny_handleBy_cons (codeAny_handlers_test ?_) (by intro q; cases q)
    have LT : PySem.W.Looks (model X.prog X.w) h3 (typeOf (.ref a)) cls := fun A Q E u k q => wpAny_typeOf_ref (k _ _ he3) (by rw [hz3.1]; exact q)
    have LM := PySem.W.exm_one (M := model X.prog X.w) J3.kIn LT hb1
    have test : ∀ {Q : Value → Shared → Prop} {E : Value → Shared → Prop}, Q c { s' with heap := h3 } → wpAny (model X.prog X.w) (X.A.mark (some (.ref a))) (eval (.Name x np) X.env) Q E { s' with heap := h3 } := fun {Q E} q => by
      obtain ⟨hg, hdbg, hm | ⟨hm, hv, hnn⟩⟩ := hc
      · exact ld_glob (X := X.suite a ((a, oe3) :: (X.pn ++ pins))) S3 hg hm q hdbg
      · exact ld_blt (X := X.suite a ((a, oe3) :: (X.pn ++ pins))) S3 hg hm hv q hnn hdbg
    refine test (LM.here ?_)
    refine codeAny_handlers_suite_as (HandSPX.lands_againZ fl3 fun h4 fl4 up4 => ?_)
    have J4 : L2.Inv X pins σ' H' { s' with heap := h4 } := J.landed nb fl4.1 ((up.trans up3).trans up4) os ag
    obtain ⟨oe4, vs4, he4, hz4, hd4⟩ := fl4.there
    have S4 := J4.suite he4 hd4 na nL nF
    refine store_ok (X := X.suite a ((a, oe4) :: (X.pn ++ pins))) (v := .ref a) S4 hN hi (.inl hln) rfl (fun s5 S5 => ?_) (.inr hln)
    refine wpAny_mono ((hsu a oe4 cls d (X.pn ++ pins) hz4 ⟨_, hd4⟩).run [] s5 _ H' _ S5 (hyes a na)) (fun f s6 hsp => ?_) (fun _ _ z => False.elim z)
    have gone : ∀ {σ6 : L2.St} {H6 : Hp} {Qs : Shared → Prop}, L2.Inv (X.suite a ((a, oe4) :: (X.pn ++ pins))) [] σ6 H6 s6 → (∀ s7, L2.Inv X pins (σ6.set i none) H6 s7 → Qs s7) → wpAny (model X.prog X.w) X.A (do bindName X.env n .none; unbindBehindTheSuite X.env n pos') (fun _ s7 => Qs s7) X.xe s6 :=
      fun {σ6 H6 Qs} S6 hq => gone_ok (S6.unsuite ok) hN hi hln hq
    cases f with
    | next =>
      obtain ⟨σ6, H6, S6, q6⟩ := hsp
      exact gone S6 fun s7 J7 => ⟨_, _, J7, q6⟩
    | brk =>
      obtain ⟨σ6, H6, S6, q6⟩ := hsp
      exact gone S6 fun s7 J7 => ⟨_, _, J7, q6⟩
    | cont =>
      obtain ⟨σ6, H6, S6, q6⟩ := hsp
      exact gone S6 fun s7 J7 => ⟨_, _, J7, q6⟩
    | ret u =>
      obtain ⟨v6, σ6, H6, S6, r6, q6⟩ := hsp
      exact gone S6 fun s7 J7 => ⟨_, _, _, J7, r6, q6⟩
  · cases f with
    | next =>
      obtain ⟨σ', H', J', q⟩ := hsp
      exact wpAny_execs_nil ⟨σ', H', J'.ofTry ok, q⟩
    | brk =>
      obtain ⟨σ', H', J', q⟩ := hsp
      exact ⟨σ', H', J'.ofTry ok, q⟩
    | cont =>
      obtain ⟨σ', H', J', q⟩ := hsp
      exact ⟨σ', H', J'.ofTry ok, q⟩
    | ret u =>
      obtain ⟨v, σ', H', J', r, q⟩ := hsp
      exact ⟨v, σ', H', J'.ofTry ok, r, q⟩
end
end Pk
end
section
set_option maxHeartbeats 1000000
/-! NoText.__init__, is_house, read_house: of anything. -/
namespace Pk
open PySem PySem.Spec PyProof.Rows L2 TL
abbrev sNTI : Stmt := inClass (topH 6) 0
abbrev sRead : Stmt := topH 39
def spNTI (C : Addr) : Sp := fun vs H Q _ => ∃ (a : Addr) (x : V), vs = [.ref a, x] ∧ scalV x ∧ H a = some (exo a C none) ∧ ∀ dx, H dx = none → dx ≠ a → Q .non (upd (upd H dx (exd dx [("row", x)])) a (exo a C (some dx)))
def spHouseT (Ps : List Addr) : Sp := fun vs H Q _ => ∃ (x : V) (d : PyData), vs = [x] ∧ Tr H x d ∧ okS d = true ∧ Tabs Ps H ∧ ∀ H', GrS Ps H H' → Q (.bl (isN (faultD d))) H'
/-- what any thing writes -/
def readT : PyData → Nat ⊕ (List Dw × List Rw)
  | .str z => readX z
  | _ => .inl 0
def spRead (Ps : List Addr) (CT : Addr) : Sp := fun vs H Q E => ∃ (x : V) (d : PyData), vs = [x] ∧ Tr H x d ∧ Tabs Ps H ∧ (∀ z, d = .str z → z.length + 8 ≤ sizeLine) ∧
  (∀ ds rs, readT d = .inr (ds, rs) → ∀ (t : Addr) (H' : Hp), GrS Ps H H' → Tr H' (.ref t) (houseP ds rs) → Q (.ref t) H') ∧
  (∀ k : Nat, readT d = .inl k → ∀ (dx : Addr) (H' : Hp), GrS Ps H H' → H' dx = some (.xd [("row", .int k)]) → E (.ref CT) (some dx) H')
theorem upd_none {H : Hp} {a dx : Addr} {o : HO} (h : upd H a o dx = none) (ne : dx ≠ a) : H dx = none := by
  rw [upd_ne ne] at h
  exact h
theorem grs_none {Ps : List Addr} {H H2 : Hp} {D : Addr} (g : GrS Ps H H2) (h : H2 D = none) : H D = none := by
  cases e : H D with
  | none => rfl
  | some u =>
    by_cases hP : D ∈ Ps
    · obtain ⟨ps, hps, _⟩ := g.1 D hP
      rw [h] at hps
      cases hps
    · have q := g.2 D u hP e
      rw [h] at q
      cases q
/-- behind the making of the error -/
theorem noText_end {Ps : List Addr} {H0 H : Hp} {a dx C : Addr} {x : V} (g : GrS Ps H0 H) (na : H a = none) (nd : H dx = none) (ne : dx ≠ a) : GrS Ps H0 (upd (del (upd (upd (upd H a (exo a C none)) dx (exd dx [("row", x)])) a (exo a C (some dx))) a) dx (.xd [("row", x)])) := by
  refine g.trans (GrS.same g.1 fun b o e => ?_)
  have q1 := ne_of_none e na
  have q2 := ne_of_none e nd
  rw [upd_ne q2, del_ne q1, upd_ne q1, upd_ne q2, upd_ne q1]
  exact e
mutual
/-- data without lists and dicts -/
def noL : PyData → Bool
  | .list _ => false
  | .dict _ => false
  | .tuple ds => noLs ds
  | _ => true
def noLs : List PyData → Bool
  | [] => true
  | d :: ds => noL d && noLs ds
end
mutual
theorem Tr.keepL {H : Hp} {a : Addr} {ys : List V} {o : HO} (ha : H a = some (.lst ys)) : ∀ {v : V} {d : PyData}, Tr H v d → noL d = true → Tr (L2.upd H a o) v d
  | _, _, .non, _ => .non
  | _, _, .bl b, _ => .bl b
  | _, _, .int i, _ => .int i
  | _, _, .str x, _ => .str x
  | _, _, .lst _ _, h => by simp [noL] at h
  | _, _, .dct _ _ _ _, h => by simp [noL] at h
  | _, _, .tup h al, hn => .tup (by rw [upd_ne (fun z => by rw [z, ha] at h; cases h)]; exact h) (TrAll.keepL ha al (by simpa [noL] using hn))
theorem TrAll.keepL {H : Hp} {a : Addr} {ys : List V} {o : HO} (ha : H a = some (.lst ys)) : ∀ {vs : List V} {ds : List PyData}, TrAll H vs ds → noLs ds = true → TrAll (L2.upd H a o) vs ds
  | _, _, .nil, _ => .nil
  | _, _, .cons h t, hn => by
    rw [noLs, Bool.and_eq_true] at hn
    exact .cons (Tr.keepL ha h hn.1) (TrAll.keepL ha t hn.2)
end
theorem noL_d (d : Dw) : noL (dialP d) = true := rfl
theorem noL_r (r : Rw) : noL (ruleP r) = true := by cases r <;> rfl
theorem noL_ds : ∀ ds : List Dw, noLs (ds.map dialP) = true
  | [] => rfl
  | d :: ds => by rw [List.map_cons, noLs, noL_d, noL_ds ds]; rfl
theorem noL_rs : ∀ rs : List Rw, noLs (rs.map ruleP) = true
  | [] => rfl
  | r :: rs => by rw [List.map_cons, noLs, noL_r, noL_rs rs]; rfl
theorem okS_nm {z : Str} (h : nmOk z) : okS (.str z) = true := decide_eq_true (by have := h.1; omega)
theorem inS_mem {zs : List Str} {z : Str} (h : inS zs (.str z) = true) : z ∈ zs := by
  obtain ⟨y, hy, e⟩ := List.any_eq_true.mp h
  have := strIs_is e
  cases this
  exact hy
theorem readD_good {ws : List Str} {d : Dw} (h : readD ws = some d) : nameD (.str d.nm) = true ∧ d.way ∈ ways3 := by
  unfold readD at h
  split at h
  · rename_i d' nm lo hi way up dn
    by_cases c : (decide (d' = "dial") && (nameD (.str nm) && inS ways3 (.str way))) = true
    · rw [if_pos c] at h
      rw [Bool.and_eq_true, Bool.and_eq_true] at c
      cases e1 : numW lo <;> rw [e1] at h <;> try cases h
      cases e2 : numW hi <;> rw [e2] at h <;> try cases h
      cases e3 : numW up <;> rw [e3] at h <;> try cases h
      cases e4 : numW dn <;> rw [e4] at h <;> try cases h
      exact ⟨c.2.1, inS_mem c.2.2⟩
    · rw [if_neg c] at h
      cases h
  · cases h
/-- what a rule that was read holds to -/
def RwG : Rw → Prop
  | .one s t => (nameD (.str s.1) = true ∧ s.2.1 ∈ sorts2) ∧ nameD (.str t.1) = true ∧ t.2.1 ∈ sorts2
  | .two w a b _ => w ∈ pairs3 ∧ nameD (.str a) = true ∧ nameD (.str b) = true
theorem readR_good {ws : List Str} {r : Rw} (h : readR ws = some r) : RwG r := by
  unfold readR at h
  split at h
  · rename_i w a b
    by_cases c : w = "one"
    · rw [if_pos c] at h
      cases e1 : sayR a <;> rw [e1] at h <;> try cases h
      cases e2 : sayR b <;> rw [e2] at h <;> try cases h
      exact ⟨sayR_good e1, sayR_good e2⟩
    · rw [if_neg c] at h
      cases h
  · rename_i w a b f
    by_cases c : (inS pairs3 (.str w) && (nameD (.str a) && nameD (.str b))) = true
    · rw [if_pos c] at h
      rw [Bool.and_eq_true, Bool.and_eq_true] at c
      cases e1 : numW f <;> rw [e1] at h <;> try cases h
      exact ⟨inS_mem c.1, c.2.1, c.2.2⟩
    · rw [if_neg c] at h
      cases h
  · cases h
def DwG (d : Dw) : Prop := nameD (.str d.nm) = true ∧ d.way ∈ ways3
theorem okS_dial {d : Dw} (h : DwG d) : okS (dialP d) = true := by
  have a := okS_nm (nameD_nm h.1)
  have b := okS_nm (way_nm h.2)
  show (okS (.str d.nm) && (true && (true && (okS (.str d.way) && (true && (true && true)))))) = true
  rw [a, b]
  rfl
theorem okS_say {s : Say} (h : nameD (.str s.1) = true ∧ s.2.1 ∈ sorts2) : okS (sayP s) = true := by
  have a := okS_nm (nameD_nm h.1)
  have b := okS_nm (sort_nm h.2)
  show (okS (.str s.1) && (okS (.str s.2.1) && (true && true))) = true
  rw [a, b]
  rfl
theorem okS_rule {r : Rw} (h : RwG r) : okS (ruleP r) = true := by
  cases r with
  | one s t =>
    show (okS (.str "one") && (okS (sayP s) && (okS (sayP t) && true))) = true
    rw [okS_say h.1, okS_say h.2, okS_nm (words_nm _ (by decide +kernel))]
    rfl
  | two w a b c =>
    show (okS (.str w) && (okS (.str a) && (okS (.str b) && (true && true)))) = true
    rw [okS_nm (pair_nm h.1), okS_nm (nameD_nm h.2.1), okS_nm (nameD_nm h.2.2)]
    rfl
theorem okSs_of {ds : List PyData} (h : ∀ d ∈ ds, okS d = true) : okSs ds = true := by
  induction ds with
  | nil => rfl
  | cons d l ih =>
    rw [okSs, h d List.mem_cons_self, ih fun e he => h e (List.mem_cons_of_mem _ he)]
    rfl
theorem okS_house {ds : List Dw} {rs : List Rw} (h1 : ∀ d ∈ ds, DwG d) (h2 : ∀ r ∈ rs, RwG r) : okS (houseP ds rs) = true := by
  show (okSs (ds.map dialP) && (okSs (rs.map ruleP) && true)) = true
  rw [okSs_of fun d hd => by obtain ⟨e, he, rfl⟩ := List.mem_map.mp hd; exact okS_dial (h1 e he), okSs_of fun d hd => by obtain ⟨e, he, rfl⟩ := List.mem_map.mp hd; exact okS_rule (h2 e he)]
  rfl
theorem readX_inl {z : Str} {k : Nat} (h : readH 0 [] [] (Txt.split z "\n") = .inl k) : readX z = .inl k := by unfold readX; rw [h]
theorem readX_inr {z : Str} {ds : List Dw} {rs : List Rw} (h : readH 0 [] [] (Txt.split z "\n") = .inr (ds, rs)) : readX z = if goodH ds rs then .inr (ds, rs) else .inl (Txt.split z "\n").length := by unfold readX; rw [h]
theorem drop_at {α : Type} {l : List α} {i : Nat} {x : α} (h : l[i]? = some x) : l.drop i = x :: l.drop (i + 1) := by
  have hi := (List.getElem?_eq_some_iff.mp h).1
  have e := (List.getElem?_eq_some_iff.mp h).2
  rw [List.drop_eq_getElem_cons hi, e]
theorem word_len {x w m : Str} (h : w ∈ Txt.split x m) (hm : 1 ≤ m.length) : w.length ≤ x.length + 1 := by
  have q := split_weight x m hm
  have : ∀ l : List Str, w ∈ l → w.length ≤ (l.map (·.length)).sum := by
    intro l
    induction l with
    | nil => intro h; cases h
    | cons a l ih =>
      intro h
      rw [List.map_cons, List.sum_cons]
      rcases List.mem_cons.mp h with rfl | h
      · omega
      · have := ih h
        omega
  have r := this _ h
  omega
end Pk
end
section
set_option maxHeartbeats 1000000
/-! NoText.__init__, is_house, read_house: the program. -/
namespace Pk
open PySem PySem.Spec PyProof.Rows L2 TL
section
variable {P : Program} {w : World} {K : PySem.W.Frag} {mg : Str → Option Value} {base : Heap} {Ps : List Addr} {P1 P2 P3 : Addr}
theorem scNTI : FnScope ["self", "row"] ["self", "row"] (defScope sNTI) := ⟨rfl, rfl, rfl, by decide +kernel, rfl, by decide +kernel, by decide +kernel⟩
theorem ok_nti {f g C : Addr} {fd gd : FuncData} (F : Fun K "__init__" "NoText.__init__" sNTI f fd) (O : OexC K C) (hno : PySem.W.findIn K (.ref C) "row" = some none) (G : FnOk P w K mg base CX0 1 g gd ["thing"] spKeptS) (bG : Binds K gd ["thing"] []) (kG : PySem.W.keepIn K (.ref g) = true) (mG : mg "kept" = some (.ref g)) :
    FnOk P w K mg base CX0 2 f fd ["self", "row"] (spNTI C) := by
  refine F.ok scNTI (fun vs H Q E h => ?_) (fun cdv A outer s H vs Q E hr h => ?_)
  · obtain ⟨a, x, rfl, _⟩ := h
    rfl
  obtain ⟨a, x, rfl, sx, e, q⟩ := h
  refine ⟨_, pss_one (ps_ost (pv 0) (pe_call G hr rfl mG kG bG .nil pass0 (pa_cons (pv 1) pa_nil))), ?_⟩
  exact ⟨_, rfl, x, rfl, sx, ⟨_, rfl, a, C, rfl, O, hno, .inl ⟨e, fun dx h1 h2 => q dx h1 h2⟩⟩⟩
theorem ok_houseT {f g : Addr} {fd gd : FuncData} (h1 : P1 ∈ Ps) (F : Fun K "is_house" "is_house" sIsHouse f fd) (G : FnOk P w K mg base CX0 5 g gd ["thing"] (spFault P1)) (bG : Binds K gd ["thing"] []) (kG : PySem.W.keepIn K (.ref g) = true) (mG : mg "fault_of" = some (.ref g)) :
    FnOk P w K mg base CX0 6 f fd ["thing"] (spHouseT Ps) := by
  refine F.ok scIsHouse (fun vs H Q E h => ?_) (fun cdv A outer s H vs Q E hr h => ?_)
  · obtain ⟨x, d, rfl, _⟩ := h
    rfl
  obtain ⟨x, d, rfl, tx, ok, tb, k⟩ := h
  refine ⟨_, pss_one (ps_ret (pe_cmpR op_isN (pe_call G hr rfl mG kG bG .nil pass0 (pa_cons (pv 0) pa_nil)) pe_non (nomark _))), ?_⟩
  refine ⟨_, rfl, x, d, rfl, tx, tb _ h1, ok, fun v H1 g1 tv => ?_⟩
  refine ⟨rfl, ?_⟩
  rw [tv.isN]
  exact k H1 (GrS.of h1 tb g1)
abbrev nRead : List Str := ["text", "dials", "rules", "rows", "k", "row", "words", "dial", "rule", "house"]
theorem scRead : FnScope nRead ["text"] (defScope sRead) := ⟨rfl, rfl, rfl, by decide +kernel, rfl, by decide +kernel, by decide +kernel⟩
/-- what the loop of read_house keeps -/
structure RdS (Ps : List Addr) (H H5 : Hp) (rw' aD aR : Addr) (rows : List Str) (i : Nat) (ds : List Dw) (rs : List Rw) (xs ys : List V) : Prop where
  g : GrS Ps H H5
  hw : H5 rw' = some (.lst (rows.map V.str))
  hd : H5 aD = some (.lst xs)
  hr : H5 aR = some (.lst ys)
  tx : TrAll H5 xs (ds.map dialP)
  ty : TrAll H5 ys (rs.map ruleP)
  rd : readH 0 [] [] rows = readH i ds rs (rows.drop i)
  gd : ∀ d ∈ ds, DwG d
  gr : ∀ r ∈ rs, RwG r
  ld : ds.length ≤ i
  lr : rs.length ≤ i
theorem RdS.grs {H H5 H6 : Hp} {rw' aD aR : Addr} {rows : List Str} {i : Nat} {ds : List Dw} {rs : List Rw} {xs ys : List V} (R : RdS Ps H H5 rw' aD aR rows i ds rs xs ys) (g : GrS Ps H5 H6) : RdS Ps H H6 rw' aD aR rows i ds rs xs ys :=
  ⟨R.g.trans g, g.at R.g.1 R.hw (by intro q z; cases z), g.at R.g.1 R.hd (by intro q z; cases z), g.at R.g.1 R.hr (by intro q z; cases z), R.tx.grs R.g.1 g, R.ty.grs R.g.1 g, R.rd, R.gd, R.gr, R.ld, R.lr⟩
theorem ok_read {f g1 g2 g3 gI CT : Addr} {fd d1 d2 d3 dI : FuncData} (F : Fun K "read_house" "read_house" sRead f fd) (B : BltH mg)
    (O : OexC K CT) (iC : PySem.W.findIn K (.ref CT) "__init__" = some (some (.ref gI))) (tI : PySem.W.typeIn K (.ref gI) = some (.type "function")) (GI : FnOk P w K mg base CX0 2 gI dI ["self", "row"] (spNTI CT)) (bI : Binds K dI ["self", "row"] []) (mT : mg "NoText" = some (.ref CT))
    (G1 : FnOk P w K mg base CX0 4 g1 d1 ["words"] (spRDial Ps)) (b1 : Binds K d1 ["words"] []) (k1 : PySem.W.keepIn K (.ref g1) = true) (m1 : mg "read_dial" = some (.ref g1))
    (G2 : FnOk P w K mg base CX0 5 g2 d2 ["words"] (spRRule Ps)) (b2 : Binds K d2 ["words"] []) (k2 : PySem.W.keepIn K (.ref g2) = true) (m2 : mg "read_rule" = some (.ref g2))
    (G3 : FnOk P w K mg base CX0 6 g3 d3 ["thing"] (spHouseT Ps)) (b3 : Binds K d3 ["thing"] []) (k3 : PySem.W.keepIn K (.ref g3) = true) (m3 : mg "is_house" = some (.ref g3)) :
    FnOk P w K mg base (L2.CX P w) 7 f fd ["text"] (spRead Ps CT) := by
  refine F.okX scRead (fun vs H Q E h => ?_) (fun cdv A outer s H vs Q E hr h => ?_)
  · obtain ⟨x, d, rfl, _⟩ := h
    rfl
  obtain ⟨x, d, rfl, t, tb, zl, kQ, kE⟩ := h
  have hr3 : Room 3 _ := hr.mono (by decide)
  have hr4 : Room 4 _ := hr.mono (by decide)
  have hr5 : Room 5 _ := hr.mono (by decide)
  refine ⟨_, pss_cons (ps_if (pt_not (pt_val (pe_callB call_isT (by rfl) B.isinstance (by decide +kernel) (pa_cons (pv 0) (pa_cons (pe_bltn (v := .ty "str") (by rfl) B.str (by decide +kernel) rfl) pa_nil))))) (pss_one (ps_raise rfl (takes_of rfl rfl rfl rfl) (pmk_oex O iC tI GI hr3 bI .nil pass0 (by rfl) mT (pa_cons pe_int pa_nil)))) pss_nil) <|
    pss_cons (ps_set (i := 1) scRead.nd rfl (.inl rfl) (pe_lst pa_nil)) <|
    pss_cons (ps_set (i := 2) scRead.nd rfl (.inl rfl) (pe_lst pa_nil)) <|
    pss_cons (ps_set (i := 3) scRead.nd rfl (.inl rfl) (pe_split (pv 0) pe_str)) <|
    pss_cons (ps_for (passes_of rfl) rfl (pi_enum (by rfl) B.enumerate (pa_cons (pv 3) pa_nil)) (pg_tup rfl (pgs_cons (pg_name (i := 4) scRead.nd rfl (.inl rfl)) (pgs_cons (pg_name (i := 5) scRead.nd rfl (.inl rfl)) pgs_nil)))
      (pss_cons (ps_set (i := 6) scRead.nd rfl (.inl rfl) (pe_split (pv 5) pe_str)) <|
       pss_cons (ps_set (i := 7) scRead.nd rfl (.inl rfl) (pe_call (E := E) G1 hr4 rfl m1 k1 b1 .nil pass0 (pa_cons (pv 6) pa_nil))) <|
       pss_cons (ps_set (i := 8) scRead.nd rfl (.inl rfl) (pe_call (E := E) G2 hr5 rfl m2 k2 b2 .nil pass0 (pa_cons (pv 6) pa_nil))) <|
       pss_one (ps_if (pt_cmpR op_notN (pv 8) pe_non (nomark _)) (pss_one (ps_expr (pe_bm PySem.F.plainAttrs_list PySem.F.slot_list_append PySem.F.type_list_append mt_append (pv 2) (pa_cons (pv 8) pa_nil))))
         (pss_one (ps_if (PW.pt (pw_and (pt_cmpR op_notN (pv 7) pe_non (nomark _)) (pw_and1 (pt_not (pt_truth (pv 2) (fun _ => rfl)))))) (pss_one (ps_expr (pe_bm PySem.F.plainAttrs_list PySem.F.slot_list_append PySem.F.type_list_append mt_append (pv 1) (pa_cons (pv 7) pa_nil)))) (pss_one (ps_raise rfl (takes_of rfl rfl rfl rfl) (pmk_oex O iC tI GI hr3 bI .nil pass0 (by rfl) mT (pa_cons (pv 4) pa_nil))))))))) <|
    pss_cons (ps_set (i := 9) scRead.nd rfl (.inl rfl) (pe_tup (pa_cons (pe_callTy call_tuple_of (by rfl) B.tuple (by decide +kernel) (pa_cons (pv 1) pa_nil)) (pa_cons (pe_callTy call_tuple_of (by rfl) B.tuple (by decide +kernel) (pa_cons (pv 2) pa_nil)) pa_nil)))) <|
    pss_cons (ps_if (pt_not (pt_val (pe_call (E := E) G3 hr rfl m3 k3 b3 .nil pass0 (pa_cons (pv 9) pa_nil)))) (pss_one (ps_raise rfl (takes_of rfl rfl rfl rfl) (pmk_oex O iC tI GI hr3 bI .nil pass0 (by rfl) mT (pa_cons (pe_callB call_len_seq (by rfl) B.len PySem.boot_len (pa_cons (pv 3) pa_nil)) pa_nil)))) pss_nil) <|
    pss_one (ps_ret (pv 9)), ?_⟩
  have sl := sizeLine_eq
  refine ⟨_, rfl, x, "str", d, isStr, rfl, kS, t, _, rfl, ?_⟩
  cases hs : isStr d with
  | false =>
    have no : readT d = .inl 0 := by cases d <;> first | rfl | (simp [isStr] at hs)
    refine iteT ?_
    have kE := kE 0 no
    exact ⟨by show 1 ≤ 1000; decide, fun a hna => ⟨a, .int 0, rfl, trivial, upd_same, fun dx n1 n2 => ⟨rfl, dx, [("row", .int 0)], upd_same, by rw [upd_ne n2]; exact upd_same, upd_none n1 n2, kE dx _ (noText_end (GrS.refl tb) hna (upd_none n1 n2) n2) upd_same⟩⟩⟩
  | true =>
  obtain ⟨z, rfl⟩ : ∃ z, d = .str z := by cases d <;> first | exact ⟨_, rfl⟩ | (simp [isStr] at hs)
  cases t
  have zl' := zl z rfl
  refine iteF ⟨by show 0 ≤ sizeLine; omega, fun aD nD => ⟨by show 0 ≤ sizeLine; omega, fun aR nR => ?_⟩⟩
  have gD := GrS.new tb (GrS.refl tb) nD (o := .lst []) (by intro q z; cases z)
  have gR := gD.trans (GrS.new gD.1 (GrS.refl gD.1) nR (o := .lst []) (by intro q z; cases z))
  have nR0 : H aR = none := by
    cases e : H aR with
    | none => rfl
    | some o =>
      have q := sameNew nD (.lst []) _ _ e
      rw [nR] at q
      cases q
  have RD : aR ≠ aD := fun z => by
    rw [z, upd_same] at nR
    cases nR
  have hD0 : L2.upd (L2.upd H aD (.lst [])) aR (.lst []) aD = some (.lst []) := by rw [upd_ne RD.symm]; exact upd_same
  have hR0 : L2.upd (L2.upd H aD (.lst [])) aR (.lst []) aR = some (.lst []) := upd_same
  generalize L2.upd (L2.upd H aD (.lst [])) aR (.lst []) = H2 at gR hD0 hR0
  refine ⟨_, rfl, ⟨_, rfl⟩, _, _, rfl, rfl, by decide +kernel, by omega, fun rw' nrw => ?_⟩
  have rowl : ∀ x ∈ Txt.split z "\n", x.length + 4 ≤ sizeLine := fun x hx => by have := word_len hx (by decide +kernel); omega
  have rn : (Txt.split z "\n").length ≤ z.length + 2 := PyProof.Rows.split_le z "\n"
  have wD : rw' ≠ aD := fun z => by rw [z, hD0] at nrw; cases nrw
  have wR : rw' ≠ aR := fun z => by rw [z, hR0] at nrw; cases nrw
  have sW := sameNew nrw (.lst ((Txt.split z "\n").map V.str))
  have gW := gR.trans (GrS.same gR.1 sW)
  have hD1 := sW _ _ hD0
  have hR1 := sW _ _ hR0
  have hW1 : L2.upd H2 rw' (.lst ((Txt.split z "\n").map V.str)) rw' = some (.lst ((Txt.split z "\n").map V.str)) := upd_same
  generalize L2.upd H2 rw' (.lst ((Txt.split z "\n").map V.str)) = H3 at gW hD1 hR1 hW1
  have rX := fun k => readX_inl (z := z) (k := k)
  have rI := fun ds rs => readX_inr (z := z) (ds := ds) (rs := rs)
  have kQ' : ∀ ds rs, readX z = .inr (ds, rs) → ∀ (t : Addr) (H' : Hp), GrS Ps H H' → Tr H' (.ref t) (houseP ds rs) → Q (.ref t) H' := fun ds rs e => kQ ds rs e
  have kE' : ∀ k : Nat, readX z = .inl k → ∀ (dx : Addr) (H' : Hp), GrS Ps H H' → H' dx = some (.xd [("row", .int k)]) → E (.ref CT) (some dx) H' := fun k e => kE k e
  generalize Txt.split z "\n" = rows at rowl rn sW hW1 rX rI
  refine ⟨_, rfl, rw', _, rfl, SqL.of hW1, for_it walk_enum (fun i σ H5 => ∃ (v4 v5 v6 v7 v8 : Option V) (ds : List Dw) (rs : List Rw) (xs ys : List V), σ = [some (.str z), some (.ref aD), some (.ref aR), some (.ref rw'), v4, v5, v6, v7, v8, none] ∧ RdS Ps H H5 rw' aD aR rows i ds rs xs ys)
    ⟨none, none, none, none, none, [], [], [], [], rfl, gW, hW1, hD1, hR1, .nil, .nil, rfl, fun _ h => (by cases h), fun _ h => (by cases h), Nat.le_refl _, Nat.le_refl _⟩ (fun i σ H5 _ ⟨_, _, _, _, _, _, _, _, _, _, q⟩ => SqL.of q.hw) ?_ ?_⟩
  · rintro i y σ H5 H6 hi ⟨v4, v5, v6, v7, v8, ds, rs, xs, ys, rfl, R5⟩ ⟨T', x1, x2, rfl, nT, rfl, e1, e2⟩
    cases e1
    have e2 : (rows.map V.str)[i]? = some x2 := e2
    rw [List.getElem?_map] at e2
    obtain ⟨row, hrow, rfl⟩ := Option.map_eq_some_iff.mp e2
    have sT := sameNew nT (.tup [.int (i : Nat), .str row])
    refine ⟨T', _, rfl, SqT.of upd_same, rfl, _, _, rfl, _, _, rfl, rfl, ?_⟩
    have R6 := R5.grs (GrS.same R5.g.1 sT)
    generalize L2.upd H5 T' (.tup [.int (i : Nat), .str row]) = H6 at R6
    have rowl' := rowl row (List.mem_of_getElem? hrow)
    have hdrop := drop_at hrow
    have hrd : readH 0 [] [] rows = match readW row with
      | some (.rule r) => readH (i + 1) ds (rs ++ [r]) (rows.drop (i + 1))
      | some (.dial d) => if rs.isEmpty then readH (i + 1) (ds ++ [d]) rs (rows.drop (i + 1)) else .inl i
      | none => .inl i := by rw [R5.rd, hdrop]; rfl
    have mkR : ∀ {H9 : Hp} (R9 : RdS Ps H H9 rw' aD aR rows i ds rs xs ys) (r : Rw) (t2 : Addr), Tr H9 (.ref t2) (ruleP r) → readW row = some (.rule r) → RwG r → RdS Ps H (L2.upd H9 aR (.lst (ys ++ [.ref t2]))) rw' aD aR rows (i + 1) ds (rs ++ [r]) xs (ys ++ [.ref t2]) := fun R9 r t2 tt er gr => by
      refine ⟨GrS.new tb R9.g nR0 (by intro q z; cases z), by rw [upd_ne wR]; exact R9.hw, by rw [upd_ne RD.symm]; exact R9.hd, upd_same, R9.tx.keepL R9.hr (noL_ds ds), ?_, by rw [hrd, er], R9.gd, fun r' h => ?_, Nat.le_succ_of_le R9.ld, by rw [List.length_append]; exact Nat.succ_le_succ R9.lr⟩
      · rw [List.map_append]
        exact .snoc (R9.ty.keepL R9.hr (noL_rs rs)) (tt.keepL R9.hr (noL_r r))
      · rcases List.mem_append.mp h with h | h
        · exact R9.gr r' h
        · rw [List.mem_singleton.mp h]; exact gr
    have mkD : ∀ {H9 : Hp} (R9 : RdS Ps H H9 rw' aD aR rows i ds rs xs ys) (d : Dw) (t2 : Addr), Tr H9 (.ref t2) (dialP d) → readW row = some (.dial d) → rs = [] → DwG d → RdS Ps H (L2.upd H9 aD (.lst (xs ++ [.ref t2]))) rw' aD aR rows (i + 1) (ds ++ [d]) rs (xs ++ [.ref t2]) ys := fun R9 d t2 tt er e0 gd => by
      refine ⟨GrS.new tb R9.g nD (by intro q z; cases z), by rw [upd_ne wD]; exact R9.hw, upd_same, by rw [upd_ne RD]; exact R9.hr, ?_, R9.ty.keepL R9.hd (noL_rs rs), by rw [hrd, er, e0]; rfl, fun d' h => ?_, R9.gr, by rw [List.length_append]; exact Nat.succ_le_succ R9.ld, Nat.le_succ_of_le R9.lr⟩
      · rw [List.map_append]
        exact .snoc (R9.tx.keepL R9.hd (noL_ds ds)) (tt.keepL R9.hd (noL_d d))
      · rcases List.mem_append.mp h with h | h
        · exact R9.gd d' h
        · rw [List.mem_singleton.mp h]; exact gd
    have ilt : i < rows.length := (List.getElem?_eq_some_iff.mp hrow).1
    have xl := R6.tx.length
    have yl := R6.ty.length
    have ld := R6.ld
    have lr := R6.lr
    rw [List.length_map] at xl yl
    refine ⟨_, rfl, ⟨_, rfl⟩, _, _, rfl, rfl, by decide +kernel, by omega, fun wl nwl => ?_⟩
    have sL := sameNew nwl (.lst ((Txt.split row " ").map V.str))
    have R7 := R6.grs (GrS.same R6.g.1 sL)
    have hl7 : L2.upd H6 wl (.lst ((Txt.split row " ").map V.str)) wl = some (.lst ((Txt.split row " ").map V.str)) := upd_same
    have wle : ∀ x ∈ Txt.split row " ", x.length ≤ sizeLine := fun x hx => by have := word_len hx (by decide +kernel); omega
    have rw0 : readW row = match readR (Txt.split row " ") with
      | some r => some (.rule r)
      | none => match readD (Txt.split row " ") with
        | some d => some (.dial d)
        | none => none := rfl
    generalize L2.upd H6 wl (.lst ((Txt.split row " ").map V.str)) = H7 at R7 hl7
    generalize Txt.split row " " = ws at hl7 wle rw0
    refine ⟨_, rfl, wl, ws, rfl, hl7, wle, R7.g.1, fun ed H8 g8 => ?_, fun d ed t H8 g8 tt => ?_⟩
    · have R8 := R7.grs g8
      refine ⟨_, rfl, wl, ws, rfl, g8.at R7.g.1 hl7 (by intro q z; cases z), wle, R8.g.1, fun er H9 g9 => ?_, fun r er t2 H9 g9 tt2 => ?_⟩
      · have R9 := R8.grs g9
        have kE := kE' i (rX i (by rw [hrd, rw0, er, ed]))
        refine ⟨_, rfl, rfl, _, rfl, iteF ⟨_, rfl, rfl, _, rfl, iteF (iteF ?_)⟩⟩
        exact ⟨_, rfl, by show 1 ≤ 1000; decide, fun a hna => ⟨a, .int i, rfl, trivial, upd_same, fun dx n1 n2 => ⟨rfl, dx, [("row", .int i)], upd_same, by rw [upd_ne n2]; exact upd_same, upd_none n1 n2, kE dx _ (noText_end R9.g hna (upd_none n1 n2) n2) upd_same⟩⟩⟩
      · have R9 := R8.grs g9
        refine ⟨_, rfl, rfl, _, rfl, iteT ⟨_, rfl, .inl ⟨rfl, _, SqL.of R9.hr⟩, _, rfl, aR, _, _, rfl, rfl, R9.hr, by omega, ?_⟩⟩
        exact ⟨_, _, _, _, _, ds, rs ++ [r], xs, ys ++ [.ref t2], rfl, mkR R9 r t2 tt2 (by rw [rw0, er]) (readR_good er)⟩
    · have R8 := R7.grs g8
      refine ⟨_, rfl, wl, ws, rfl, g8.at R7.g.1 hl7 (by intro q z; cases z), wle, R8.g.1, fun er H9 g9 => ?_, fun r er t2 H9 g9 tt2 => ?_⟩
      · have R9 := R8.grs g9
        have tt9 := tt.grs R8.g.1 g9
        refine ⟨_, rfl, rfl, _, rfl, iteF ⟨_, rfl, rfl, _, rfl, iteT ?_⟩⟩
        cases rs with
        | nil =>
          have e0 : ys = [] := List.length_eq_zero_iff.mp yl
          subst e0
          refine ⟨_, rfl, _, .inl ⟨_, SqL.of R9.hr, rfl⟩, iteT ⟨_, rfl, .inl ⟨rfl, _, SqL.of R9.hd⟩, _, rfl, aD, _, _, rfl, rfl, R9.hd, by omega, ?_⟩⟩
          exact ⟨_, _, _, _, _, ds ++ [d], [], xs ++ [.ref t], [], rfl, mkD R9 d t tt9 (by rw [rw0, er, ed]) rfl (readD_good ed)⟩
        | cons r rs =>
          obtain ⟨y, ys', rfl⟩ : ∃ y ys', ys = y :: ys' := by
            cases ys with
            | nil => simp at yl
            | cons y ys' => exact ⟨y, ys', rfl⟩
          have kE := kE' i (rX i (by rw [hrd, rw0, er, ed]; rfl))
          refine ⟨_, rfl, _, .inl ⟨_, SqL.of R9.hr, rfl⟩, iteF ?_⟩
          exact ⟨_, rfl, by show 1 ≤ 1000; decide, fun a hna => ⟨a, .int i, rfl, trivial, upd_same, fun dx n1 n2 => ⟨rfl, dx, [("row", .int i)], upd_same, by rw [upd_ne n2]; exact upd_same, upd_none n1 n2, kE dx _ (noText_end R9.g hna (upd_none n1 n2) n2) upd_same⟩⟩⟩
      · have R9 := R8.grs g9
        refine ⟨_, rfl, rfl, _, rfl, iteT ⟨_, rfl, .inl ⟨rfl, _, SqL.of R9.hr⟩, _, rfl, aR, _, _, rfl, rfl, R9.hr, by omega, ?_⟩⟩
        exact ⟨_, _, _, _, _, ds, rs ++ [r], xs, ys ++ [.ref t2], rfl, mkR R9 r t2 tt2 (by rw [rw0, er]) (readR_good er)⟩
  · rintro σ H5 ⟨v4, v5, v6, v7, v8, ds, rs, xs, ys, rfl, R5⟩
    have ei : readH 0 [] [] rows = .inr (ds, rs) := by
      rw [R5.rd, List.length_map, List.drop_length]
      rfl
    refine ⟨_, rfl, aD, _, rfl, .inl ⟨SqL.of R5.hd, fun t1 n1 => ?_⟩⟩
    have s1 := sameNew n1 (.tup xs)
    refine ⟨_, rfl, aR, _, rfl, .inl ⟨SqL.of (s1 _ _ R5.hr), fun t2 n2 => ?_⟩⟩
    have s2 := sameNew n2 (.tup ys)
    refine ⟨by show 2 ≤ sizeLine; decide, fun t3 n3 => ?_⟩
    have s3 := sameNew n3 (.tup [.ref t1, .ref t2])
    have s13 := (s1.trans s2).trans s3
    have tr : Tr (L2.upd (L2.upd (L2.upd H5 t1 (.tup xs)) t2 (.tup ys)) t3 (.tup [.ref t1, .ref t2])) (.ref t3) (houseP ds rs) :=
      .tup upd_same (.cons (.tup (s3 _ _ (s2 _ _ upd_same)) (R5.tx.same s13)) (.cons (.tup (s3 _ _ upd_same) (R5.ty.same s13)) .nil))
    have RE := R5.grs (GrS.same R5.g.1 s13)
    generalize L2.upd (L2.upd (L2.upd H5 t1 (.tup xs)) t2 (.tup ys)) t3 (.tup [.ref t1, .ref t2]) = H9 at tr RE
    have e1 := rI ds rs ei
    refine ⟨_, rfl, _, _, rfl, tr, okS_house R5.gd R5.gr, RE.g.1, fun H10 g10 => ⟨_, rfl, ?_⟩⟩
    have R10 := RE.grs g10
    cases c : isN (faultD (houseP ds rs)) with
    | true =>
      rw [show goodH ds rs = true from c] at e1
      exact iteF ⟨_, rfl, kQ' ds rs e1 t3 H10 R10.g (tr.grs RE.g.1 g10)⟩
    | false =>
      rw [show goodH ds rs = false from c] at e1
      have kE := kE' rows.length e1
      have ml : (rows.map V.str).length = rows.length := List.length_map ..
      refine iteT ⟨_, rfl, rw', _, rfl, .inl (SqL.of R10.hw), ?_⟩
      rw [ml]
      exact ⟨by show 1 ≤ 1000; decide, fun a hna => ⟨a, .int rows.length, rfl, trivial, upd_same, fun dx n1 n2 => ⟨rfl, dx, [("row", .int rows.length)], upd_same, by rw [upd_ne n2]; exact upd_same, upd_none n1 n2, kE dx _ (noText_end R10.g hna (upd_none n1 n2) n2) upd_same⟩⟩⟩
end
end Pk
end
section
set_option maxHeartbeats 1000000
/-! The law's own: read_number, read_saying. -/
namespace Pk
open PySem PySem.Spec PyProof.Rows L2 TL
abbrev sLNum : Stmt := topH 53
abbrev sLRSay : Stmt := topH 55
/-- a comprehension over a text's signs that keeps some of them -/
def keepSigns (p : Nat → Bool) (l : List Nat) : List V := (l.filter p).map fun c => V.str ⟨#[c]⟩
theorem keep_snoc {p : Nat → Bool} {l : List Nat} {i : Nat} {c : Nat} (h : l[i]? = some c) : keepSigns p (l.take (i + 1)) = if p c = true then keepSigns p (l.take i) ++ [.str ⟨#[c]⟩] else keepSigns p (l.take i) := by
  unfold keepSigns
  rw [take_more h, List.filter_append]
  by_cases q : p c = true
  · rw [if_pos q, List.filter_cons_of_pos q, List.map_append]
    rfl
  · rw [if_neg q, List.filter_cons_of_neg q]
    simp
theorem keep_len (p : Nat → Bool) (l : List Nat) : (keepSigns p l).length ≤ l.length := by
  unfold keepSigns
  rw [List.length_map]
  exact List.length_filter_le _ _
theorem keep_nil {p : Nat → Bool} {l : List Nat} : (keepSigns p l).isEmpty = l.all fun c => !p c := by
  unfold keepSigns
  induction l with
  | nil => rfl
  | cons c l ih =>
    rw [List.all_cons]
    by_cases q : p c = true
    · rw [List.filter_cons_of_pos q, q]
      rfl
    · rw [List.filter_cons_of_neg q, show p c = false by simpa using q]
      exact ih
theorem digits_in (c : Nat) : decide (c ∈ ("0123456789" : Str).cps.toList) = figC c := by
  have e : ("0123456789" : Str).cps.toList = [48, 49, 50, 51, 52, 53, 54, 55, 56, 57] := by decide +kernel
  rw [e, Bool.eq_iff_iff, decide_eq_true_eq]
  unfold figC
  simp only [List.mem_cons, List.not_mem_nil, or_false, Bool.and_eq_true, decide_eq_true_eq]
  omega
theorem letters_in (c : Nat) : decide (c ∈ ("abcdefghijklmnopqrstuvwxyz" : Str).cps.toList) = smallC c := by
  have e : ("abcdefghijklmnopqrstuvwxyz" : Str).cps.toList = [97, 98, 99, 100, 101, 102, 103, 104, 105, 106, 107, 108, 109, 110, 111, 112, 113, 114, 115, 116, 117, 118, 119, 120, 121, 122] := by decide +kernel
  rw [e, Bool.eq_iff_iff, decide_eq_true_eq]
  unfold smallC
  simp only [List.mem_cons, List.not_mem_nil, or_false, Bool.and_eq_true, decide_eq_true_eq]
  omega
theorem len_tl' {x : Str} : x.length = x.cps.toList.length := len_tl x
theorem cut1_eq (x : Str) : decide (V.str (cutS x none (some 1)) = V.str "-") = Txt.startswith x "-" := by
  rw [minus_is, starts1, Bool.eq_iff_iff, decide_eq_true_eq, decide_eq_true_eq]
  have e : tl (cutS x none (some 1)) = (tl x).take 1 := by
    show (cutS x none (some ((1 : Nat) : Int))).cps.toList = _
    rw [cutS_cps, HT.sIx_none, HT.sIx_nat, List.drop_zero, Nat.sub_zero]
    by_cases h : 1 ≤ x.length
    · rw [Nat.min_eq_left h]
    · have e : tl x = [] := List.eq_nil_of_length_eq_zero (by rw [← len_tl]; omega)
      show (tl x).take _ = (tl x).take 1
      rw [e]
      simp
  constructor
  · intro h
    have q := V.str.inj h
    rw [q] at e
    have e2 : (tl x).take 1 = [45] := e.symm
    cases hx : tl x with
    | nil => rw [hx] at e2; simp at e2
    | cons c r =>
      rw [hx] at e2
      simp at e2
      rw [e2]
      rfl
  · intro h
    have e2 : (tl x).take 1 = [45] := by
      cases hx : tl x with
      | nil => rw [hx] at h; simp at h
      | cons c r =>
        rw [hx] at h
        simp at h
        rw [h]
        rfl
    rw [e2] at e
    have : cutS x none (some 1) = ⟨#[45]⟩ := ext_tl e
    rw [this]
def spLNum : Sp := fun vs H Q _ => ∃ x : Str, vs = [.str x] ∧ x.length ≤ sizeLine ∧ ∀ H', Same H H' → Q (vI (numW x)) H'
section
variable {P : Program} {w : World} {K : PySem.W.Frag} {mg : Str → Option Value} {base : Heap}
abbrev nLNum : List Str := ["_law_text", "_law_figures", "_law_sign"]
theorem scLNum : FnScope nLNum ["_law_text"] (defScope sLNum) := ⟨rfl, rfl, rfl, by decide +kernel, rfl, by decide +kernel, by decide +kernel⟩
theorem ok_lnum {f : Addr} {fd : FuncData} (F : Fun K "_law_read_number" "_law_read_number" sLNum f fd) (B : BltH mg) : FnOk P w K mg base CX0 1 f fd ["_law_text"] spLNum := by
  refine F.ok scLNum (fun vs H Q E h => ?_) (fun cdv A outer s H vs Q E hr h => ?_)
  · obtain ⟨x, rfl, _⟩ := h
    rfl
  obtain ⟨x, rfl, xl, k⟩ := h
  have hu := hu_of hr
  have hu0 : (A.deeper (PyProof.Rows.envOfC "_law_read_number" (defScope sLNum) s.heap.objs.size f cdv)).units < cLine := by omega
  refine ⟨_, pss_cons (ps_set (i := 1) scLNum.nd rfl (.inl rfl) (pe_ifExp (pt_cmpR op_eq (pe_slice sl_str (pv 0) po_none (po_some pe_int)) pe_str (nomark _)) (pe_slice sl_str (pv 0) (po_some pe_int) po_none) (pv 0))) <|
    pss_cons (ps_if (PW.pt (pw_or (pt_not (pt_chain op_le op_le pe_int (pe_callB call_len_str (by rfl) B.len PySem.boot_len (pa_cons (pv 1) pa_nil)) pe_int)) (pw_or1 (pt_cmpR (op_neNil hu0) (pe_lc (own := [("_law_sign", 2)]) (g := gName 2) (by rfl) scLNum.nd (pi_str (pv 1)) (blkOk_by (N := nLNum) (sc := defScope sLNum) (by decide +kernel)) (fun _ _ _ _ _ => pg_name (i := 2) scLNum.nd rfl (Or.inl rfl)) (fun _ _ _ _ _ => pts_one (pt_cmpR op_notIn_sign (pv 2) pe_str (by rfl))) (fun _ _ _ _ _ => pv 2)) (pe_lst pa_nil) (nomark _))))) (pss_one (ps_ret pe_non)) pss_nil) <|
    pss_one (ps_ret (pe_ifExp (PW.pt (pw_and (pt_cmpR op_eq (pe_ix ix_str (pv 1) pe_int (fun _ _ => rfl)) pe_str (nomark _)) (pw_and1 (pt_cmpR op_ne (pv 0) pe_str (nomark _))))) pe_non (pe_callTy call_int_str (by rfl) B.int (by decide +kernel) (pa_cons (pv 0) pa_nil)))), ?_⟩
  have sl := sizeLine_eq
  have fl := figW_len x
  refine ⟨_, rfl, 1, rfl, _, rfl, xl, rfl, _, rfl, ?_⟩
  rw [cut1_eq]
  cases hs : Txt.startswith x "-" with
  | true =>
    have hY : cutS x (some 1) none = figW x := by unfold figW; rw [if_pos hs]
    have hYl : (cutS x (some 1) none).length ≤ sizeLine := by rw [hY]; omega
    refine iteT ⟨_, rfl, 1, rfl, _, rfl, by omega, ?_⟩
    generalize cutS x (some 1) none = Y at hY hYl
    refine ⟨_, rfl, Y, rfl, hYl, _, _, rfl, rfl, _, rfl, ?_⟩
    by_cases c1 : 1 ≤ (Y).length
    · rw [decide_eq_true (show (1 : Int) ≤ ((Str.length (Y) : Nat) : Int) by omega)]
      refine iteT ⟨_, _, rfl, rfl, _, rfl, ?_⟩
      by_cases c2 : (Y).length ≤ 60
      · rw [decide_eq_true (show ((Str.length (Y) : Nat) : Int) ≤ 60 by omega)]
        refine iteF ⟨_, rfl, Y, rfl, fun D hD => lc_it walk_str (fun i H1 => H1 D = some (.lst (keepSigns (fun c => !figC c) ((Y).cps.toList.take i))) ∧ Same H H1) ⟨upd_same, sameNew hD _⟩ (fun _ _ _ _ => trivial) ?_ ?_⟩
        · rintro i y H9 H1 hi ⟨e1, s1⟩ ⟨rfl, c, hc, rfl⟩
          have hc' : (Y).cps.toList[i]? = some c := by rw [Array.getElem?_toList]; exact hc
          refine ⟨rfl, _, rfl, c, _, rfl, rfl, _, rfl, ?_⟩
          rw [digits_in]
          have kl := keep_len (fun c => !figC c) ((Y).cps.toList.take i)
          have tl' : ((Y).cps.toList.take i).length ≤ 60 := by rw [List.length_take, ← len_tl']; omega
          have st := keep_snoc (p := fun c => !figC c) hc'
          cases fc : figC c with
          | true =>
            rw [fc] at st
            refine iteF ⟨?_, s1⟩
            rw [e1, st]
            rfl
          | false =>
            rw [fc] at st
            refine iteT ⟨_, rfl, _, e1, by omega, ?_, fun b o e => ?_⟩
            · rw [upd_same, st]
              rfl
            · rw [upd_ne (ne_of_none e hD)]
              exact s1 _ _ e
        · rintro H1 ⟨e1, s1⟩
          have ll : (Y).cps.toList.take (Y).cps.size = (Y).cps.toList := List.take_of_length_le (by rw [Array.length_toList]; exact Nat.le_refl _)
          rw [ll] at e1
          refine ⟨by show 0 ≤ sizeLine; omega, fun L hL => ?_⟩
          have s2 := sameNew hL (.lst [])
          refine ⟨D, L, _, rfl, rfl, SqL.of (s2 _ _ e1), SqL.of upd_same, _, rfl, ?_⟩
          have k := k _ (s1.trans s2)
          rw [keep_nil, show (fun c => !!figC c) = figC by funext c; simp]
          cases c3 : (Y).cps.toList.all figC with
          | false =>
            have en : numW x = none := numW_no (by unfold isNum; rw [← hY, c3]; simp)
            rw [en] at k
            exact iteT k
          | true =>
            have hne : ∃ c r, (Y).cps.toList = c :: r := by
              cases e : (Y).cps.toList with
              | nil => rw [len_tl', e] at c1; simp at c1
              | cons c r => exact ⟨c, r, rfl⟩
            obtain ⟨c, r, ecr⟩ := hne
            refine iteF ⟨_, rfl, Y, 0, c, rfl, rfl, by omega, by rw [ecr]; exact atI_nat (xs := c :: r) (j := 0) (v := c) rfl, rfl, _, rfl, ?_⟩
            have c4e : Txt.startswith (Y) "0" = decide (V.str ⟨#[c]⟩ = V.str "0") := by
              have e0 : (tl (Y))[0]? = some c := by
                show ((Y).cps.toList)[0]? = _
                rw [ecr]
                rfl
              rw [zero_is, starts1, Bool.eq_iff_iff, decide_eq_true_eq, decide_eq_true_eq, e0]
              constructor
              · intro h
                cases h
                rfl
              · intro h
                have h := V.str.inj h
                cases h
                rfl
            rw [← c4e]
            cases c4 : Txt.startswith (Y) "0" with
            | true =>
              refine iteT ⟨_, rfl, rfl, _, rfl, ?_⟩
              by_cases c5 : x = "0"
              · rw [decide_eq_true (show V.str x = V.str "0" by rw [c5])]
                have hn : isNum x = true := by unfold isNum; rw [← hY, c3, c4, decide_eq_true c1, decide_eq_true c2, decide_eq_true c5]; rfl
                obtain ⟨i, e1', e2⟩ := numW_int hn
                have l61 := (isNum_parts hn).2.2.2
                rw [e2] at k
                exact iteF ⟨_, rfl, _, i, rfl, e1', by omega, k⟩
              · rw [decide_eq_false (fun z => c5 (V.str.inj z))]
                have en : numW x = none := numW_no (by unfold isNum; rw [← hY, c4, decide_eq_false c5]; simp)
                rw [en] at k
                exact iteT k
            | false =>
              have hn : isNum x = true := by unfold isNum; rw [← hY, c3, c4, decide_eq_true c1, decide_eq_true c2]; rfl
              obtain ⟨i, e1', e2⟩ := numW_int hn
              have l61 := (isNum_parts hn).2.2.2
              rw [e2] at k
              exact iteF ⟨_, rfl, _, i, rfl, e1', by omega, k⟩
      · rw [decide_eq_false (show ¬ ((Str.length (Y) : Nat) : Int) ≤ 60 by omega)]
        have en : numW x = none := numW_no (by unfold isNum; rw [← hY, decide_eq_false c2]; simp)
        have k := k H (Same.refl _)
        rw [en] at k
        exact iteT k
    · rw [decide_eq_false (show ¬ (1 : Int) ≤ ((Str.length (Y) : Nat) : Int) by omega)]
      have en : numW x = none := numW_no (by unfold isNum; rw [← hY, decide_eq_false c1]; rfl)
      have k := k H (Same.refl _)
      rw [en] at k
      exact iteF ⟨_, rfl, iteT k⟩
  | false =>
    have hY : x = figW x := by unfold figW; rw [hs]; rfl
    have hYl : x.length ≤ sizeLine := xl
    refine iteF ⟨_, rfl, ?_⟩
    refine ⟨_, rfl, x, rfl, hYl, _, _, rfl, rfl, _, rfl, ?_⟩
    by_cases c1 : 1 ≤ (x).length
    · rw [decide_eq_true (show (1 : Int) ≤ ((Str.length (x) : Nat) : Int) by omega)]
      refine iteT ⟨_, _, rfl, rfl, _, rfl, ?_⟩
      by_cases c2 : (x).length ≤ 60
      · rw [decide_eq_true (show ((Str.length (x) : Nat) : Int) ≤ 60 by omega)]
        refine iteF ⟨_, rfl, x, rfl, fun D hD => lc_it walk_str (fun i H1 => H1 D = some (.lst (keepSigns (fun c => !figC c) ((x).cps.toList.take i))) ∧ Same H H1) ⟨upd_same, sameNew hD _⟩ (fun _ _ _ _ => trivial) ?_ ?_⟩
        · rintro i y H9 H1 hi ⟨e1, s1⟩ ⟨rfl, c, hc, rfl⟩
          have hc' : (x).cps.toList[i]? = some c := by rw [Array.getElem?_toList]; exact hc
          refine ⟨rfl, _, rfl, c, _, rfl, rfl, _, rfl, ?_⟩
          rw [digits_in]
          have kl := keep_len (fun c => !figC c) ((x).cps.toList.take i)
          have tl' : ((x).cps.toList.take i).length ≤ 60 := by rw [List.length_take, ← len_tl']; omega
          have st := keep_snoc (p := fun c => !figC c) hc'
          cases fc : figC c with
          | true =>
            rw [fc] at st
            refine iteF ⟨?_, s1⟩
            rw [e1, st]
            rfl
          | false =>
            rw [fc] at st
            refine iteT ⟨_, rfl, _, e1, by omega, ?_, fun b o e => ?_⟩
            · rw [upd_same, st]
              rfl
            · rw [upd_ne (ne_of_none e hD)]
              exact s1 _ _ e
        · rintro H1 ⟨e1, s1⟩
          have ll : (x).cps.toList.take (x).cps.size = (x).cps.toList := List.take_of_length_le (by rw [Array.length_toList]; exact Nat.le_refl _)
          rw [ll] at e1
          refine ⟨by show 0 ≤ sizeLine; omega, fun L hL => ?_⟩
          have s2 := sameNew hL (.lst [])
          refine ⟨D, L, _, rfl, rfl, SqL.of (s2 _ _ e1), SqL.of upd_same, _, rfl, ?_⟩
          have k := k _ (s1.trans s2)
          rw [keep_nil, show (fun c => !!figC c) = figC by funext c; simp]
          cases c3 : (x).cps.toList.all figC with
          | false =>
            have en : numW x = none := numW_no (by unfold isNum; rw [← hY, c3]; simp)
            rw [en] at k
            exact iteT k
          | true =>
            have hne : ∃ c r, (x).cps.toList = c :: r := by
              cases e : (x).cps.toList with
              | nil => rw [len_tl', e] at c1; simp at c1
              | cons c r => exact ⟨c, r, rfl⟩
            obtain ⟨c, r, ecr⟩ := hne
            refine iteF ⟨_, rfl, x, 0, c, rfl, rfl, by omega, by rw [ecr]; exact atI_nat (xs := c :: r) (j := 0) (v := c) rfl, rfl, _, rfl, ?_⟩
            have c4e : Txt.startswith (x) "0" = decide (V.str ⟨#[c]⟩ = V.str "0") := by
              have e0 : (tl (x))[0]? = some c := by
                show ((x).cps.toList)[0]? = _
                rw [ecr]
                rfl
              rw [zero_is, starts1, Bool.eq_iff_iff, decide_eq_true_eq, decide_eq_true_eq, e0]
              constructor
              · intro h
                cases h
                rfl
              · intro h
                have h := V.str.inj h
                cases h
                rfl
            rw [← c4e]
            cases c4 : Txt.startswith (x) "0" with
            | true =>
              refine iteT ⟨_, rfl, rfl, _, rfl, ?_⟩
              by_cases c5 : x = "0"
              · rw [decide_eq_true (show V.str x = V.str "0" by rw [c5])]
                have hn : isNum x = true := by unfold isNum; rw [← hY, c3, c4, decide_eq_true c1, decide_eq_true c2, decide_eq_true c5]; rfl
                obtain ⟨i, e1', e2⟩ := numW_int hn
                have l61 := (isNum_parts hn).2.2.2
                rw [e2] at k
                exact iteF ⟨_, rfl, _, i, rfl, e1', by omega, k⟩
              · rw [decide_eq_false (fun z => c5 (V.str.inj z))]
                have en : numW x = none := numW_no (by unfold isNum; rw [← hY, c4, decide_eq_false c5]; simp)
                rw [en] at k
                exact iteT k
            | false =>
              have hn : isNum x = true := by unfold isNum; rw [← hY, c3, c4, decide_eq_true c1, decide_eq_true c2]; rfl
              obtain ⟨i, e1', e2⟩ := numW_int hn
              have l61 := (isNum_parts hn).2.2.2
              rw [e2] at k
              exact iteF ⟨_, rfl, _, i, rfl, e1', by omega, k⟩
      · rw [decide_eq_false (show ¬ ((Str.length (x) : Nat) : Int) ≤ 60 by omega)]
        have en : numW x = none := numW_no (by unfold isNum; rw [← hY, decide_eq_false c2]; simp)
        have k := k H (Same.refl _)
        rw [en] at k
        exact iteT k
    · rw [decide_eq_false (show ¬ (1 : Int) ≤ ((Str.length (x) : Nat) : Int) by omega)]
      have en : numW x = none := numW_no (by unfold isNum; rw [← hY, decide_eq_false c1]; rfl)
      have k := k H (Same.refl _)
      rw [en] at k
      exact iteF ⟨_, rfl, iteT k⟩
end
end Pk
end
section
set_option maxHeartbeats 1000000
/-! The law's own: read_saying. -/
namespace Pk
open PySem PySem.Spec PyProof.Rows L2 TL
theorem SayO.same {H H' : Hp} {v : V} {o : Option Say} (h : SayO H v o) (s : Same H H') : SayO H' v o := by
  cases o with
  | none => exact h
  | some t =>
    obtain ⟨q, e, hq⟩ := h
    exact ⟨q, e, s _ _ hq⟩
abbrev sLNm : Stmt := topH 54
def spLNm : Sp := fun vs H Q _ => ∃ x : Str, vs = [.str x] ∧ x.length ≤ sizeLine ∧ ∀ H', Same H H' → Q (.bl (nameD (.str x))) H'
section
variable {P : Program} {w : World} {K : PySem.W.Frag} {mg : Str → Option Value} {base : Heap}
abbrev nLNm : List Str := ["_law_text", "_law_sign"]
theorem scLNm : FnScope nLNm ["_law_text"] (defScope sLNm) := ⟨rfl, rfl, rfl, by decide +kernel, rfl, by decide +kernel, by decide +kernel⟩
theorem ok_lnm {f : Addr} {fd : FuncData} (F : Fun K "_law_is_name" "_law_is_name" sLNm f fd) (B : BltH mg) : FnOk P w K mg base CX0 1 f fd ["_law_text"] spLNm := by
  refine F.ok scLNm (fun vs H Q E h => ?_) (fun cdv A outer s H vs Q E hr h => ?_)
  · obtain ⟨x, rfl, _⟩ := h
    rfl
  obtain ⟨a, rfl, al, k⟩ := h
  have hu := hu_of hr
  have hu0 : (A.deeper (PyProof.Rows.envOfC "_law_is_name" (defScope sLNm) s.heap.objs.size f cdv)).units < cLine := by omega
  refine ⟨_, pss_one (ps_ret (pe_and (pe_chain op_le op_le pe_int (pe_callB call_len_str (by rfl) B.len PySem.boot_len (pa_cons (pv 0) pa_nil)) pe_int) (pe_one (pe_cmpR (op_eqNil hu0) (pe_lc (own := [("_law_sign", 1)]) (g := gName 1) (by rfl) scLNm.nd (pi_str (pv 0)) (blkOk_by (N := nLNm) (sc := defScope sLNm) (by decide +kernel)) (fun _ _ _ _ _ => pg_name (i := 1) scLNm.nd rfl (Or.inl rfl)) (fun _ _ _ _ _ => pts_one (pt_cmpR op_notIn_sign (pv 1) pe_str (by rfl))) (fun _ _ _ _ _ => pv 1)) (pe_lst pa_nil) (nomark _))))), ?_⟩
  have sl := sizeLine_eq
  have nmd := nameD_str a
  rw [nmd] at k
  refine ⟨_, rfl, a, rfl, al, _, _, rfl, rfl, _, rfl, ?_⟩
  by_cases c2 : 1 ≤ a.length
  case neg =>
    rw [decide_eq_false (show ¬ (1 : Int) ≤ ((Str.length a : Nat) : Int) by omega)] at k ⊢
    exact iteF ⟨_, rfl, iteF (k H (Same.refl _))⟩
  rw [decide_eq_true (show (1 : Int) ≤ ((Str.length a : Nat) : Int) by omega)] at k ⊢
  refine iteT ⟨_, _, rfl, rfl, _, rfl, ?_⟩
  by_cases c3 : a.length ≤ 8
  case neg =>
    rw [decide_eq_false (show ¬ ((Str.length a : Nat) : Int) ≤ 8 by omega)] at k ⊢
    exact iteF (k H (Same.refl _))
  rw [decide_eq_true (show ((Str.length a : Nat) : Int) ≤ 8 by omega)] at k ⊢
  refine iteT ⟨_, rfl, a, rfl, fun D hD => lc_it walk_str (fun i H4 => H4 D = some (.lst (keepSigns (fun c => !smallC c) (a.cps.toList.take i))) ∧ Same H H4) ⟨upd_same, sameNew hD _⟩ (fun _ _ _ _ => trivial) ?_ ?_⟩
  · rintro i y H9 H4 hi ⟨e4, s4⟩ ⟨rfl, c, hc, rfl⟩
    have hc' : a.cps.toList[i]? = some c := by rw [Array.getElem?_toList]; exact hc
    refine ⟨rfl, _, rfl, c, _, rfl, rfl, _, rfl, ?_⟩
    rw [letters_in]
    have kl := keep_len (fun c => !smallC c) (a.cps.toList.take i)
    have hi' : i < a.length := hi
    have tl' : (a.cps.toList.take i).length ≤ i := by rw [List.length_take]; omega
    have st := keep_snoc (p := fun c => !smallC c) hc'
    cases fc : smallC c with
    | true =>
      rw [fc] at st
      refine iteF ⟨?_, s4⟩
      rw [e4, st]
      rfl
    | false =>
      rw [fc] at st
      refine iteT ⟨_, rfl, _, e4, by omega, ?_, fun b o e => ?_⟩
      · rw [upd_same, st]
        rfl
      · rw [upd_ne (ne_of_none e hD)]
        exact s4 _ _ e
  · rintro H4 ⟨e4, s4⟩
    have ll : a.cps.toList.take a.cps.size = a.cps.toList := List.take_of_length_le (by rw [Array.length_toList]; exact Nat.le_refl _)
    rw [ll] at e4
    refine ⟨by show 0 ≤ sizeLine; omega, fun N hN => ?_⟩
    have s5 := sameNew hN (.lst [])
    refine ⟨D, N, _, rfl, rfl, SqL.of (s5 _ _ e4), SqL.of upd_same, ?_⟩
    rw [keep_nil, show (fun c => !!smallC c) = smallC by funext c; simp]
    exact k _ (s4.trans s5)
end
def spLRSay : Sp := fun vs H Q _ => ∃ x : Str, vs = [.str x] ∧ x.length + 2 ≤ sizeLine ∧ ∀ (v : V) (H' : Hp), Same H H' → SayO H' v (sayL x) → Q v H'
section
variable {P : Program} {w : World} {K : PySem.W.Frag} {mg : Str → Option Value} {base : Heap}
abbrev nLRSay : List Str := ["_law_text", "_law_sort", "_law_mark", "_law_parts", "_law_number"]
theorem scLRSay : FnScope nLRSay ["_law_text"] (defScope sLRSay) := ⟨rfl, rfl, rfl, by decide +kernel, rfl, by decide +kernel, by decide +kernel⟩
theorem ok_lrsay {f g n : Addr} {fd gd nd : FuncData} (F : Fun K "_law_read_saying" "_law_read_saying" sLRSay f fd) (B : BltH mg)
    (N : FnOk P w K mg base CX0 1 n nd ["_law_text"] spLNm) (bN : Binds K nd ["_law_text"] []) (kN : PySem.W.keepIn K (.ref n) = true) (mN : mg "_law_is_name" = some (.ref n))
    (G : FnOk P w K mg base CX0 1 g gd ["_law_text"] spLNum) (bG : Binds K gd ["_law_text"] []) (kG : PySem.W.keepIn K (.ref g) = true) (mG : mg "_law_read_number" = some (.ref g)) : FnOk P w K mg base CX0 2 f fd ["_law_text"] spLRSay := by
  refine F.ok scLRSay (fun vs H Q E h => ?_) (fun cdv A outer s H vs Q E hr h => ?_)
  · obtain ⟨x, rfl, _⟩ := h
    rfl
  obtain ⟨x, rfl, xl, k⟩ := h
  have hu := hu_of hr
  have hu0 : (A.deeper (PyProof.Rows.envOfC "_law_read_saying" (defScope sLRSay) s.heap.objs.size f cdv)).units < cLine := by omega
  refine ⟨_, pss_cons (ps_for PassesOwn.never rfl (pi_tup (pe_tup (pa_cons (pe_tup (pa_cons pe_str (pa_cons pe_str pa_nil))) (pa_cons (pe_tup (pa_cons pe_str (pa_cons pe_str pa_nil))) pa_nil)))) (pg_tup rfl (pgs_cons (pg_name (i := 1) scLRSay.nd rfl (.inl rfl)) (pgs_cons (pg_name (i := 2) scLRSay.nd rfl (.inl rfl)) pgs_nil)))
      (pss_cons (ps_set (i := 3) scLRSay.nd rfl (.inl rfl) (pe_split (pv 0) (pv 2))) <|
       pss_one (ps_if (pt_cmpR op_eq (pe_callB call_len_seq (by rfl) B.len PySem.boot_len (pa_cons (pv 3) pa_nil)) pe_int (nomark _))
        (pss_cons (ps_set (i := 4) scLRSay.nd rfl (.inl rfl) (pe_call G hr rfl mG kG bG .nil pass0 (pa_cons (pe_ix ix_list (pv 3) pe_int (fun _ _ => rfl)) pa_nil))) <|
         pss_one (ps_ret (pe_ifExp (PW.pt (pw_and (pt_val (pe_call N hr rfl mN kN bN .nil pass0 (pa_cons (pe_ix ix_list (pv 3) pe_int (fun _ _ => rfl)) pa_nil))) (pw_and1 (pt_cmpR op_notN (pv 4) pe_non (nomark _))))) (pe_tup (pa_cons (pe_ix ix_list (pv 3) pe_int (fun _ _ => rfl)) (pa_cons (pv 1) (pa_cons (pv 4) pa_nil)))) pe_non))) pss_nil))) <|
    pss_one (ps_ret pe_non), ?_⟩
  have sl := sizeLine_eq
  refine ⟨by show 2 ≤ sizeLine; decide, fun t1 n1 => ?_⟩
  have u1 := sameNew n1 (.tup [V.str "least", V.str ">="])
  have e1 : L2.upd H t1 (.tup [V.str "least", V.str ">="]) t1 = some (.tup [V.str "least", V.str ">="]) := upd_same
  generalize L2.upd H t1 (.tup [V.str "least", V.str ">="]) = Ha at u1 e1
  refine ⟨by show 2 ≤ sizeLine; decide, fun t2 n2 => ?_⟩
  have u2 := sameNew n2 (.tup [V.str "most", V.str "<="])
  have e2 : L2.upd Ha t2 (.tup [V.str "most", V.str "<="]) t2 = some (.tup [V.str "most", V.str "<="]) := upd_same
  have e1 := u2 _ _ e1
  generalize L2.upd Ha t2 (.tup [V.str "most", V.str "<="]) = Hb at u2 e1 e2
  refine ⟨by show 2 ≤ sizeLine; decide, fun t3 n3 => ?_⟩
  have u3 := sameNew n3 (.tup [V.ref t1, V.ref t2])
  have e3 : L2.upd Hb t3 (.tup [V.ref t1, V.ref t2]) t3 = some (.tup [V.ref t1, V.ref t2]) := upd_same
  have e1 := u3 _ _ e1
  have e2 := u3 _ _ e2
  have u13 := (u1.trans u2).trans u3
  generalize L2.upd Hb t3 (.tup [V.ref t1, V.ref t2]) = H0 at u3 e1 e2 e3 u13
  refine ⟨t3, rfl, ⟨_, SqT.of e3⟩, for_it (walk_tup (xs := [V.ref t1, V.ref t2])) (fun j σ H1 => ∃ v1 v2 v3 v4 : Option V, σ = [some (.str x), v1, v2, v3, v4] ∧ Same H0 H1 ∧ (1 ≤ j → sayQ x ">=" "least" = none) ∧ (2 ≤ j → sayQ x "<=" "most" = none))
    ⟨none, none, none, none, rfl, Same.refl _, by omega, by omega⟩ (fun j σ H1 _ ⟨_, _, _, _, _, s1, _⟩ => SqT.of (s1 _ _ e3)) ?_ ?_⟩
  · rintro j y σ H9 H1 hj ⟨v1, v2, v3, v4, rfl, s1, hm1, hm2⟩ ⟨rfl, hy⟩
    obtain ⟨tj, so, m, rfl, htj, jc⟩ : ∃ (tj : Addr) (so m : Str), y = .ref tj ∧ H0 tj = some (.tup [V.str so, V.str m]) ∧ ((j = 0 ∧ so = "least" ∧ m = ">=") ∨ (j = 1 ∧ so = "most" ∧ m = "<=")) := by
      match j, hy with
      | 0, hy => exact ⟨t1, _, _, (Option.some.inj hy).symm, e1, .inl ⟨rfl, rfl, rfl⟩⟩
      | 1, hy => exact ⟨t2, _, _, (Option.some.inj hy).symm, e2, .inr ⟨rfl, rfl, rfl⟩⟩
      | j + 2, hy => simp at hy
    have mne : tl m ≠ [] := by
      rcases jc with ⟨_, _, q⟩ | ⟨_, _, q⟩ <;> rw [q]
      · exact ge_ne
      · exact lq_ne
    have mk : m.cps.all (· < 256) = true := by
      rcases jc with ⟨_, _, q⟩ | ⟨_, _, q⟩ <;> rw [q]
      · exact ge_ok
      · exact lq_ok
    have m0 : (m.length == 0) = false := by
      rcases jc with ⟨_, _, q⟩ | ⟨_, _, q⟩ <;> rw [q] <;> decide +kernel
    have m1 : 1 ≤ m.length := by
      rcases jc with ⟨_, _, q⟩ | ⟨_, _, q⟩ <;> rw [q] <;> decide +kernel
    -- what is found, or not
    have hit : ∀ o : Option Say, sayQ x m so = some o → sayL x = o := fun o e => by
      unfold sayL
      rcases jc with ⟨_, q2, q3⟩ | ⟨q1, q2, q3⟩
      · rw [q3, q2] at e
        rw [e]
      · rw [q3, q2] at e
        rw [hm1 (by omega), e]
    have miss : sayQ x m so = none → (1 ≤ j + 1 → sayQ x ">=" "least" = none) ∧ (2 ≤ j + 1 → sayQ x "<=" "most" = none) := fun e => by
      rcases jc with ⟨q1, q2, q3⟩ | ⟨q1, q2, q3⟩
      · rw [q3, q2] at e
        exact ⟨fun _ => e, fun h => by omega⟩
      · rw [q3, q2] at e
        exact ⟨fun _ => hm1 (by omega), fun _ => e⟩
    refine ⟨tj, _, rfl, SqT.of (s1 _ _ htj), rfl, _, _, rfl, _, _, rfl, rfl, ?_⟩
    refine ⟨_, rfl, ⟨_, rfl⟩, _, rfl, _, _, rfl, rfl, m0, xl, fun L hL => ?_⟩
    have s2 := sameNew hL (.lst ((Txt.split x m).map V.str))
    have hL2 : L2.upd H1 L (.lst ((Txt.split x m).map V.str)) L = some (.lst ((Txt.split x m).map V.str)) := upd_same
    have s12 := s1.trans s2
    generalize L2.upd H1 L (.lst ((Txt.split x m).map V.str)) = H2 at hL2 s12
    have spw := PyProof.Rows.split_weight x m m1
    refine ⟨_, rfl, L, _, rfl, .inl (SqL.of hL2), rfl, _, rfl, ?_⟩
    rw [List.length_map]
    have sc := split_cut (x := x) mne mk
    cases ec : cutM x m with
    | none =>
      rw [ec] at sc
      have e1l : (Txt.split x m).length = 1 := by rw [sc]; rfl
      rw [e1l, decide_eq_false (show ¬ V.int ((1 : Nat) : Int) = V.int 2 by intro z; cases z)]
      refine iteF ⟨_, _, _, _, rfl, s12, miss ?_⟩
      unfold sayQ
      rw [ec]
    | some p =>
      obtain ⟨a, r⟩ := p
      rw [ec] at sc
      have sc : Txt.split x m = a :: Txt.split r m := sc
      have sr := split_cut (x := r) mne mk
      cases er : cutM r m with
      | some q =>
        obtain ⟨a2, r2⟩ := q
        rw [er] at sr
        have sr : Txt.split r m = a2 :: Txt.split r2 m := sr
        have pos := PyProof.Rows.split_pos r2 m
        have e3l : 3 ≤ (Txt.split x m).length := by rw [sc, sr, List.length_cons, List.length_cons]; omega
        rw [decide_eq_false (show ¬ V.int (((Txt.split x m).length : Nat) : Int) = V.int 2 by intro z; have := V.int.inj z; omega)]
        refine iteF ⟨_, _, _, _, rfl, s12, miss ?_⟩
        unfold sayQ
        rw [ec]
        show (match cutM r m with | none => _ | some _ => none) = none
        rw [er]
      | none =>
        rw [er] at sr
        have sr : Txt.split r m = [r] := sr
        rw [sr] at sc
        rw [sc] at hL2 spw
        have hL2 : H2 L = some (.lst [V.str a, V.str r]) := hL2
        rw [List.map_cons, List.map_cons, List.map_nil, List.sum_cons, List.sum_cons, List.sum_nil, List.length_cons, List.length_cons, List.length_nil] at spw
        rw [sc]
        rw [decide_eq_true (show V.int ((([a, r] : List Str).length : Nat) : Int) = V.int 2 from rfl)]
        have al : a.length ≤ sizeLine := by omega
        have rl : r.length ≤ sizeLine := by omega
        refine iteT ⟨_, rfl, L, _, _, _, rfl, rfl, SqL.of hL2, rfl, r, rfl, rl, fun H3 s3 => ?_⟩
        have hL3 := s3 _ _ hL2
        have s13 := s12.trans s3
        refine ⟨_, rfl, L, _, _, _, rfl, rfl, SqL.of hL3, rfl, a, rfl, al, fun H4 s4 => ⟨_, rfl, ?_⟩⟩
        have hL4 := s4 _ _ hL3
        have s14 := s13.trans s4
        have s0 := u13.trans s14
        have q0 : sayQ x m so = some (if (nameD (.str a) && (numW r).isSome) = true then some (a, so, (numW r).getD 0) else none) := by
          unfold sayQ
          rw [ec]
          show (match cutM r m with | none => some (if (nameD (.str a) && (numW r).isSome) = true then some (a, so, (numW r).getD 0) else none) | some _ => none) = _
          rw [er]
        have bad : (nameD (.str a) && (numW r).isSome) = false → Q .non H4 := fun e => k .non H4 s0 (by
          rw [hit none (by rw [q0, e]; rfl)]
          exact rfl)
        cases c1 : nameD (.str a) with
        | false => exact iteF (iteF (bad (by rw [c1]; rfl)))
        | true =>
          refine iteT ⟨_, rfl, rfl, _, rfl, ?_⟩
          cases en : numW r with
          | none => exact iteF (bad (by rw [en]; simp))
          | some i =>
            refine iteT ⟨_, rfl, L, _, _, _, rfl, rfl, SqL.of hL4, rfl, _, rfl, _, rfl, by show 3 ≤ sizeLine; omega, fun q hq => ?_⟩
            refine k (.ref q) _ (s0.trans (sameNew hq _)) ?_
            rw [hit (some (a, so, i)) (by rw [q0, c1, en]; rfl)]
            exact ⟨q, rfl, upd_same⟩
  · rintro σ H1 ⟨v1, v2, v3, v4, rfl, s1, hm1, hm2⟩
    refine k .non H1 (u13.trans s1) ?_
    unfold sayL
    rw [hm1 (by simp), hm2 (by simp)]
    rfl
end
end Pk
end
section
set_option maxHeartbeats 1000000
/-! The law's own: read_row. -/
namespace Pk
open PySem PySem.Spec PyProof.Rows L2 TL
abbrev sLRow : Stmt := topH 56
def DwAt (H : Hp) (a : Addr) (d : Dw) : Prop := H a = some (.tup [.str d.nm, .int d.lo, .int d.hi, .str d.way, .int d.up, .int d.dn])
def RwAt (H : Hp) (a : Addr) : Rw → Prop
  | .one s t => ∃ p q, H a = some (.tup [.str "one", .ref p, .ref q]) ∧ H p = some (.tup (sayV s)) ∧ H q = some (.tup (sayV t))
  | .two w x y c => H a = some (.tup [.str w, .str x, .str y, .int c])
def RowO (H : Hp) (v : V) : Option Row → Prop
  | none => v = .non
  | some (.dial d) => ∃ a, v = .ref a ∧ DwAt H a d
  | some (.rule r) => ∃ a, v = .ref a ∧ RwAt H a r
theorem DwAt.same {H H' : Hp} {a : Addr} {d : Dw} (h : DwAt H a d) (s : Same H H') : DwAt H' a d := s _ _ h
theorem RwAt.same {H H' : Hp} {a : Addr} {r : Rw} (h : RwAt H a r) (s : Same H H') : RwAt H' a r := by
  cases r with
  | one u t =>
    obtain ⟨p, q, h1, h2, h3⟩ := h
    exact ⟨p, q, s _ _ h1, s _ _ h2, s _ _ h3⟩
  | two w x y c => exact s _ _ h
def oI : Option Int → PyData
  | some i => .int i
  | none => .none
theorem trI (H : Hp) (o : Option Int) : Tr H (vI o) (oI o) := by
  cases o with
  | none => exact .non
  | some i => exact .int i
/-- the row as it was put together is none -/
def badRow (w0 : Str) (dd : List PyData) : Bool := (dd.any fun z => PyData.eqv z .none) || (decide (dd.length < 3) || (decide (w0 = "one") && !decide (dd.length = 3)))
def tRowEnd : TS := fun D σ H => ∃ (x w0 : Str) (v1 v3 v5 : Option V) (t : Addr) (us : List V) (dd : List PyData), σ = [some (.str x), v1, some (.str w0), v3, some (.ref t), v5] ∧ H t = some (.tup us) ∧ TrAll H us dd ∧ PyData.canLayAll0 dd = true ∧ PyData.depthAll dd ≤ 1 ∧
  (badRow w0 dd = true → D.rt .non H) ∧ (badRow w0 dd = false → D.rt (.ref t) H)
def spLRow : Sp := fun vs H Q _ => ∃ x : Str, vs = [.str x] ∧ x.length + 8 ≤ sizeLine ∧ ∀ (v : V) (H' : Hp), Same H H' → RowO H' v (readW x) → Q v H'
theorem layI (o : Option Int) : (oI o).canLay0 = true ∧ (oI o).depth = 0 := by
  cases o with
  | none => exact ⟨rfl, by simp [oI, PyData.depth]⟩
  | some i => exact ⟨by simp [oI, PyData.canLay0], by simp [oI, PyData.depth]⟩
theorem lay_cons {d : PyData} {ds : List PyData} (h1 : d.canLay0 = true ∧ d.depth ≤ 1) (h2 : PyData.canLayAll0 ds = true ∧ PyData.depthAll ds ≤ 1) : PyData.canLayAll0 (d :: ds) = true ∧ PyData.depthAll (d :: ds) ≤ 1 := by
  refine ⟨?_, ?_⟩
  · rw [PyData.canLayAll0, h1.1, h2.1]
    rfl
  · rw [PyData.depthAll]
    have := h1.2
    have := h2.2
    omega
theorem lay_str {z : Str} (h : nmOk z) : (PyData.str z).canLay0 = true ∧ (PyData.str z).depth ≤ 1 := ⟨(nm_str h).1, by simp [PyData.depth]⟩
theorem lay_I (o : Option Int) : (oI o).canLay0 = true ∧ (oI o).depth ≤ 1 := ⟨(layI o).1, by rw [(layI o).2]; omega⟩
theorem cutV_tail {xs : List V} : cutV xs (some 1) none = xs.drop 1 := by
  unfold cutV
  rw [HT.sIx_none, show (some (1 : Int)) = some ((1 : Nat) : Int) from rfl, HT.sIx_nat]
  by_cases h : 1 ≤ xs.length
  · rw [Nat.min_eq_left h, List.take_of_length_le (by rw [List.length_drop]; exact Nat.le_refl _)]
  · rw [Nat.min_eq_right (by omega), Nat.sub_self, List.take_zero, List.drop_of_length_le (by omega)]
theorem len6 {α : Type} {l : List α} (h : l.length = 6) : ∃ a b c d e f, l = [a, b, c, d, e, f] := by
  match l, h with
  | [a, b, c, d, e, f], _ => exact ⟨a, b, c, d, e, f, rfl⟩
theorem dial_noR {l : List Str} : readR ("dial" :: l) = none := by
  unfold readR
  split
  · rename_i w a b e
    cases e
    exact if_neg (by decide +kernel)
  · rename_i w a b f e
    cases e
    exact if_neg (by rw [show inS pairs3 (.str "dial") = false by decide +kernel]; simp)
  · rfl
theorem noD {w0 : Str} {l : List Str} (h : w0 ≠ "dial") : readD (w0 :: l) = none := by
  unfold readD
  split
  · rename_i d nm lo hi way up dn e
    cases e
    exact if_neg (by rw [decide_eq_false h]; simp)
  · rfl
theorem dial_one : decide (("dial" : Str) = "one") = false := by decide +kernel
theorem one_pairs : inS pairs3 (.str "one") = false := by decide +kernel
/-- a saying's row -/
theorem one_bad : ∀ rest : List Str, badRow "one" (.str "one" :: rest.map fun x => oS (sayR x)) = (readR ("one" :: rest)).isNone ∧ ∀ r, readR ("one" :: rest) = some r → ∃ a b s t, rest = [a, b] ∧ sayR a = some s ∧ sayR b = some t ∧ r = .one s t
  | [] => ⟨rfl, fun r h => by cases h⟩
  | [a] => ⟨by
      show ((_ || _) || (true || _)) = true
      simp, fun r h => by cases h⟩
  | [a, b] => by
    have rd : readR ["one", a, b] = (match sayR a, sayR b with | some s, some t => some (.one s t) | _, _ => none) := by
      show (if ("one" : Str) = "one" then (match sayR a, sayR b with | some s, some t => some (Rw.one s t) | _, _ => none) else none) = _
      rw [if_pos rfl]
    rw [rd]
    unfold badRow
    have o1 : decide (("one" : Str) = "one") = true := decide_eq_true rfl
    rw [o1]
    cases e1 : sayR a with
    | none => exact ⟨by rw [List.map_cons, e1]; rfl, fun r h => by cases h⟩
    | some u =>
      cases e2 : sayR b with
      | none => exact ⟨by rw [List.map_cons, List.map_cons, e1, e2]; rfl, fun r h => by cases h⟩
      | some v => exact ⟨by rw [List.map_cons, List.map_cons, e1, e2]; rfl, fun r h => ⟨a, b, u, v, rfl, e1, e2, (Option.some.inj h).symm⟩⟩
  | a :: b :: c :: l => by
    have rd : readR ("one" :: a :: b :: c :: l) = none := by
      unfold readR
      split
      · rename_i e
        cases e
      · rename_i e
        cases e
        exact if_neg (by rw [one_pairs]; simp)
      · rfl
    rw [rd]
    refine ⟨?_, fun r h => by cases h⟩
    unfold badRow
    rw [decide_eq_true (show ("one" : Str) = "one" from rfl), decide_eq_false (show ¬ (PyData.str "one" :: (a :: b :: c :: l).map fun x => oS (sayR x)).length = 3 by rw [List.length_cons, List.length_map]; simp)]
    simp
theorem two_read {w0 : Str} {rest : List Str} (h : w0 ≠ "one") : (∀ a b f, rest ≠ [a, b, f]) → readR (w0 :: rest) = none := fun n => by
  unfold readR
  split
  · rename_i e
    cases e
    exact if_neg h
  · rename_i a b f e
    cases e
    exact absurd rfl (n _ _ _)
  · rfl
theorem lay_nil : PyData.canLayAll0 [] = true ∧ PyData.depthAll [] ≤ 1 := ⟨rfl, by simp [PyData.depthAll]⟩
section
variable {P : Program} {w : World} {K : PySem.W.Frag} {mg : Str → Option Value} {base : Heap}
abbrev nLRow : List Str := ["_law_text", "_law_words", "_law_first", "_law_rest", "_law_found", "_law_word"]
theorem scLRow : FnScope nLRow ["_law_text"] (defScope sLRow) := ⟨rfl, rfl, rfl, by decide +kernel, rfl, by decide +kernel, by decide +kernel⟩
theorem ok_lrow {f g n y : Addr} {fd gd nd yd : FuncData} (F : Fun K "_law_read_row" "_law_read_row" sLRow f fd) (B : BltH mg)
    (G : FnOk P w K mg base CX0 1 g gd ["_law_text"] spLNum) (bG : Binds K gd ["_law_text"] []) (kG : PySem.W.keepIn K (.ref g) = true) (mG : mg "_law_read_number" = some (.ref g))
    (N : FnOk P w K mg base CX0 1 n nd ["_law_text"] spLNm) (bN : Binds K nd ["_law_text"] []) (kN : PySem.W.keepIn K (.ref n) = true) (mN : mg "_law_is_name" = some (.ref n))
    (Y : FnOk P w K mg base CX0 2 y yd ["_law_text"] spLRSay) (bY : Binds K yd ["_law_text"] []) (kY : PySem.W.keepIn K (.ref y) = true) (mY : mg "_law_read_saying" = some (.ref y)) :
    FnOk P w K mg base CX0 3 f fd ["_law_text"] spLRow := by
  refine F.ok scLRow (fun vs H Q E h => ?_) (fun cdv A outer s H vs Q E hr h => ?_)
  · obtain ⟨x, rfl, _⟩ := h
    rfl
  obtain ⟨x, rfl, xl, k⟩ := h
  have hu := hu_of hr
  have hr1 : Room 1 _ := hr.mono (by decide)
  have hu65 : (A.deeper (PyProof.Rows.envOfC "_law_read_row" (defScope sLRow) s.heap.objs.size f cdv)).units + 65 < cLine := by
    have := hr.un
    omega
  refine ⟨_, pss_cons (ps_set (i := 1) scLRow.nd rfl (.inl rfl) (pe_split (pv 0) pe_str)) <|
    pss_cons (ps_par (i := 2) (j := 3) (by rfl) scLRow.nd rfl rfl (by decide) rfl rfl (pa_cons (pe_ix ix_list (pv 1) pe_int (fun _ _ => rfl)) (pa_cons (pe_slice sl_list (pv 1) (po_some pe_int) po_none) pa_nil)) (by rfl)) <|
    pss_cons (ps_if (pt_cmpR op_eq (pv 2) pe_str (nomark _))
      (pss_cons (ps_if (PW.pt (pw_or (pt_cmpR op_ne (pe_callB call_len_seq (by rfl) B.len PySem.boot_len (pa_cons (pv 3) pa_nil)) pe_int (nomark _)) (pw_or (pt_not (pt_val (pe_call N hr1 rfl mN kN bN .nil pass0 (pa_cons (pe_ix ix_list (pv 3) pe_int (fun _ _ => rfl)) pa_nil)))) (pw_or1 (pt_cmpR (op_notInS hu) (pe_ix ix_list (pv 3) pe_int (fun _ _ => rfl)) (pe_tup (pa_cons pe_str (pa_cons pe_str (pa_cons pe_str pa_nil)))) (by rfl)))))) (pss_one (ps_ret pe_non)) pss_nil) <|
       pss_cons (ps_set (i := 4) scLRow.nd rfl (.inl rfl) (pe_tup (pa_cons (pe_ix ix_list (pv 3) pe_int (fun _ _ => rfl)) (pa_cons (pe_call G hr1 rfl mG kG bG .nil pass0 (pa_cons (pe_ix ix_list (pv 3) pe_int (fun _ _ => rfl)) pa_nil)) (pa_cons (pe_call G hr1 rfl mG kG bG .nil pass0 (pa_cons (pe_ix ix_list (pv 3) pe_int (fun _ _ => rfl)) pa_nil)) (pa_cons (pe_ix ix_list (pv 3) pe_int (fun _ _ => rfl)) pa_nil)))))) <|
       pss_one (ps_set (i := 4) scLRow.nd rfl (.inl rfl) (pe_op op_catT (pv 4) (pe_tup (pa_cons (pe_call G hr1 rfl mG kG bG .nil pass0 (pa_cons (pe_ix ix_list (pv 3) pe_int (fun _ _ => rfl)) pa_nil)) (pa_cons (pe_call G hr1 rfl mG kG bG .nil pass0 (pa_cons (pe_ix ix_list (pv 3) pe_int (fun _ _ => rfl)) pa_nil)) pa_nil))))))
      (pss_one (ps_if (pt_cmpR op_eq (pv 2) pe_str (nomark _))
        (pss_one (ps_set (i := 4) scLRow.nd rfl (.inl rfl) (pe_op op_catT (pe_tup (pa_cons pe_str pa_nil)) (pe_callTy call_tuple_of (by rfl) B.tuple (by decide +kernel) (pa_cons (pe_lc (own := [("_law_word", 5)]) (g := gName 5) (by rfl) scLRow.nd (pi_list (pv 3)) (blkOk_by (N := nLRow) (sc := defScope sLRow) (by decide +kernel)) (fun _ _ _ _ _ => pg_name (i := 5) scLRow.nd rfl (Or.inl rfl)) (fun _ _ _ _ _ => pts_nil) (fun _ _ _ _ _ => pe_call Y hr rfl mY kY bY .nil pass0 (pa_cons (pv 5) pa_nil))) pa_nil)))))
        (pss_one (ps_if (PW.pt (pw_and (pt_cmpR (op_inS hu) (pv 2) (pe_tup (pa_cons pe_str (pa_cons pe_str (pa_cons pe_str pa_nil)))) (by rfl)) (pw_and (pt_cmpR op_eq (pe_callB call_len_seq (by rfl) B.len PySem.boot_len (pa_cons (pv 3) pa_nil)) pe_int (nomark _)) (pw_and (pt_val (pe_call N hr1 rfl mN kN bN .nil pass0 (pa_cons (pe_ix ix_list (pv 3) pe_int (fun _ _ => rfl)) pa_nil))) (pw_and1 (pt_val (pe_call N hr1 rfl mN kN bN .nil pass0 (pa_cons (pe_ix ix_list (pv 3) pe_int (fun _ _ => rfl)) pa_nil))))))))
          (pss_one (ps_set (i := 4) scLRow.nd rfl (.inl rfl) (pe_tup (pa_cons (pv 2) (pa_cons (pe_ix ix_list (pv 3) pe_int (fun _ _ => rfl)) (pa_cons (pe_ix ix_list (pv 3) pe_int (fun _ _ => rfl)) (pa_cons (pe_call G hr1 rfl mG kG bG .nil pass0 (pa_cons (pe_ix ix_list (pv 3) pe_int (fun _ _ => rfl)) pa_nil)) pa_nil)))))))
          (pss_one (ps_ret pe_non))))))) <|
    pssW (u := tRowEnd) (pss_one (ps_ret (pe_ifExp (PW.pt (pw_or (pt_cmpR (op_inDT hu65) pe_non (pv 4) (by rfl)) (pw_or (pt_cmpR op_lt (pe_callB call_len_seq (by rfl) B.len PySem.boot_len (pa_cons (pv 4) pa_nil)) pe_int (nomark _)) (pw_or1 (PW.pt (pw_and (pt_cmpR op_eq (pv 2) pe_str (nomark _)) (pw_and1 (pt_cmpR op_ne (pe_callB call_len_seq (by rfl) B.len PySem.boot_len (pa_cons (pv 4) pa_nil)) pe_int (nomark _))))))))) pe_non (pv 4)))) ?tail, ?_⟩
  case tail =>
    rintro D σ H' ⟨x', w0, v1, v3, v5, t, us, dd, rfl, ht, tr, la, ld, kb, kg⟩
    have wl : (PyData.tuple dd).canLay0 = true := by rw [PyData.canLay0]; exact la
    have wd : (PyData.tuple dd).depth ≤ 2 := by rw [PyData.depth]; omega
    have ln := tr.length
    refine ⟨_, rfl, .none, dd, Tr.dp .non rfl, Tr.dp (.tup ht tr) (noDict_of wl), rfl, shaped_of wl (by omega), _, rfl, ?_⟩
    unfold badRow at kb kg
    cases c1 : dd.any fun z => PyData.eqv z .none with
    | true =>
      rw [c1] at kb
      exact iteT (iteT (kb rfl))
    | false =>
    rw [c1] at kb kg
    refine iteF ⟨_, rfl, t, _, rfl, .inr (SqT.of ht), _, _, rfl, rfl, _, rfl, ?_⟩
    by_cases c2 : dd.length < 3
    · rw [decide_eq_true c2] at kb
      rw [decide_eq_true (show ((us.length : Nat) : Int) < 3 by omega)]
      exact iteT (iteT (kb rfl))
    rw [decide_eq_false c2] at kb kg
    rw [decide_eq_false (show ¬ ((us.length : Nat) : Int) < 3 by omega)]
    refine iteF ⟨_, rfl, rfl, _, rfl, ?_⟩
    by_cases c3 : w0 = "one"
    · rw [decide_eq_true c3] at kb kg
      rw [decide_eq_true (show V.str w0 = V.str "one" by rw [c3])]
      refine iteT ⟨_, rfl, t, _, rfl, .inr (SqT.of ht), rfl, _, rfl, ?_⟩
      by_cases c4 : dd.length = 3
      · rw [decide_eq_true c4] at kg
        rw [decide_eq_true (show V.int ((us.length : Nat) : Int) = V.int 3 by rw [ln, c4]; rfl)]
        exact iteF ⟨_, rfl, kg rfl⟩
      · rw [decide_eq_false c4] at kb
        rw [decide_eq_false (show ¬ V.int ((us.length : Nat) : Int) = V.int 3 from fun z => c4 (by have := V.int.inj z; omega))]
        exact iteT (kb rfl)
    · rw [decide_eq_false c3] at kg
      rw [decide_eq_false (show ¬ V.str w0 = V.str "one" from fun z => c3 (V.str.inj z))]
      exact iteF (iteF ⟨_, rfl, kg rfl⟩)
  have sl := sizeLine_eq
  refine ⟨_, rfl, ⟨_, rfl⟩, _, _, rfl, rfl, by decide +kernel, by omega, fun W nW => ?_⟩
  have s1 := sameNew nW (.lst ((Txt.split x " ").map V.str))
  have hW : L2.upd H W (.lst ((Txt.split x " ").map V.str)) W = some (.lst ((Txt.split x " ").map V.str)) := upd_same
  have wle : ∀ w ∈ Txt.split x " ", w.length + 2 ≤ sizeLine := fun w hw => by have := word_len hw (by decide +kernel); omega
  have wll : (Txt.split x " ").length + 4 ≤ sizeLine := by have := PyProof.Rows.split_le x " "; omega
  have rdw : readW x = match readR (Txt.split x " ") with
    | some r => some (.rule r)
    | none => match readD (Txt.split x " ") with
      | some d => some (.dial d)
      | none => none := rfl
  obtain ⟨w0, rest, ews⟩ : ∃ w0 rest, Txt.split x " " = w0 :: rest := by
    cases e : Txt.split x " " with
    | nil => have := PyProof.Rows.split_pos x " "; rw [e] at this; simp at this
    | cons a l => exact ⟨a, l, rfl⟩
  rw [ews] at rdw wle wll
  rw [ews] at s1 hW ⊢
  generalize L2.upd H W (.lst ((w0 :: rest).map V.str)) = H1 at s1 hW
  have hW' : H1 W = some (.lst (.str w0 :: rest.map V.str)) := hW
  refine ⟨_, rfl, W, _, _, _, rfl, rfl, SqL.of hW', atI_nat (xs := .str w0 :: rest.map V.str) (j := 0) (v := .str w0) rfl, _, rfl, 1, rfl, W, _, rfl, SqL.of hW', fun R nR => ⟨_, _, rfl, ?_⟩⟩
  have ct : cutV (V.str w0 :: rest.map V.str) (some 1) none = rest.map V.str := cutV_tail
  rw [ct]
  have s2 := s1.trans (sameNew nR (.lst (rest.map V.str)))
  have hR : L2.upd H1 R (.lst (rest.map V.str)) R = some (.lst (rest.map V.str)) := upd_same
  generalize L2.upd H1 R (.lst (rest.map V.str)) = H2 at s2 hR
  have wl2 : ∀ w ∈ rest, w.length + 2 ≤ sizeLine := fun w hw => wle w (List.mem_cons_of_mem _ hw)
  rw [List.length_cons] at wll
  have h0 : Same H H2 := s2
  have non : ∀ H', Same H H' → readW x = none → Q .non H' := fun H' s e => k .non H' s (by rw [e]; exact rfl)
  refine ⟨_, rfl, rfl, _, rfl, ?_⟩
  by_cases c1 : w0 = "dial"
  · subst c1
    rw [dial_noR] at rdw
    refine iteT ⟨_, rfl, R, _, rfl, .inl (SqL.of hR), rfl, _, rfl, ?_⟩
    by_cases l6 : rest.length = 6
    case neg =>
      rw [show decide (V.int (((rest.map V.str).length : Nat) : Int) = V.int 6) = false from (len_dec rest 6).trans (decide_eq_false l6)]
      rw [readD_len (ws := "dial" :: rest) (by rw [List.length_cons]; omega)] at rdw
      exact iteT (iteT (non H2 h0 rdw))
    obtain ⟨nm, lo, hi, way, up, dn, rfl⟩ := len6 l6
    have hR' : H2 R = some (.lst [.str nm, .str lo, .str hi, .str way, .str up, .str dn]) := hR
    have rd : readD ["dial", nm, lo, hi, way, up, dn] = if decide (("dial" : Str) = "dial") && (nameD (.str nm) && inS ways3 (.str way)) then (match numW lo, numW hi, numW up, numW dn with | some a, some b, some c, some e => some ⟨nm, a, b, way, c, e⟩ | _, _, _, _ => none) else none := rfl
    rw [rd, decide_eq_true (show ("dial" : Str) = "dial" from rfl)] at rdw
    have wl1 := fun (w : Str) (h : w ∈ [nm, lo, hi, way, up, dn]) => wl2 w h
    refine iteF ⟨_, rfl, R, _, _, _, rfl, rfl, SqL.of hR', rfl, nm, rfl, by have := wl1 nm (by simp); omega, fun H3 s3 => ⟨_, rfl, ?_⟩⟩
    have hR3 := s3 _ _ hR'
    have h3 := h0.trans s3
    cases cn : nameD (.str nm) with
    | false =>
      rw [cn] at rdw
      exact iteT (iteT (non H3 h3 rdw))
    | true =>
    refine iteF ⟨_, rfl, R, _, _, _, rfl, rfl, SqL.of hR3, rfl, by show 3 ≤ sizeLine; decide, fun T nT => ?_⟩
    have sT := sameNew nT (.tup [V.str "both", V.str "up", V.str "down"])
    have hR4 := sT _ _ hR3
    have h4 := h3.trans sT
    refine ⟨.str way, T, ways3, .str way, rfl, .inr (SqT.of upd_same), _, rfl, ?_⟩
    rw [show (ways3.any fun z => strIs z (.str way)) = inS ways3 (.str way) from rfl]
    generalize L2.upd H3 T (.tup [V.str "both", V.str "up", V.str "down"]) = H4 at hR4 h4
    cases cw : inS ways3 (.str way) with
    | false =>
      rw [cn, cw] at rdw
      exact iteT (non H4 h4 rdw)
    | true =>
    rw [cn, cw] at rdw
    refine iteF ⟨_, rfl, R, _, _, _, rfl, rfl, SqL.of hR4, rfl, _, rfl, R, _, _, _, rfl, rfl, SqL.of hR4, rfl, lo, rfl, by have := wl1 lo (by simp); omega, fun H5 s5 => ?_⟩
    have hR5 := s5 _ _ hR4
    have h5 := h4.trans s5
    refine ⟨_, rfl, R, _, _, _, rfl, rfl, SqL.of hR5, rfl, hi, rfl, by have := wl1 hi (by simp); omega, fun H6 s6 => ?_⟩
    have hR6 := s6 _ _ hR5
    have h6 := h5.trans s6
    refine ⟨_, rfl, R, _, _, _, rfl, rfl, SqL.of hR6, rfl, by show 4 ≤ sizeLine; decide, fun T1 nT1 => ?_⟩
    have sT1 := sameNew nT1 (.tup [V.str nm, vI (numW lo), vI (numW hi), V.str way])
    have hR7 := sT1 _ _ hR6
    have h7 := h6.trans sT1
    have hT1 : L2.upd H6 T1 (.tup [V.str nm, vI (numW lo), vI (numW hi), V.str way]) T1 = some (.tup [V.str nm, vI (numW lo), vI (numW hi), V.str way]) := upd_same
    generalize L2.upd H6 T1 (.tup [V.str nm, vI (numW lo), vI (numW hi), V.str way]) = H7 at hR7 h7 hT1
    refine ⟨_, rfl, _, rfl, R, _, _, _, rfl, rfl, SqL.of hR7, rfl, up, rfl, by have := wl1 up (by simp); omega, fun H8 s8 => ?_⟩
    have hR8 := s8 _ _ hR7
    have h8 := h7.trans s8
    refine ⟨_, rfl, R, _, _, _, rfl, rfl, SqL.of hR8, rfl, dn, rfl, by have := wl1 dn (by simp); omega, fun H9 s9 => ?_⟩
    have h9 := h8.trans s9
    refine ⟨by show 2 ≤ sizeLine; decide, fun T2 nT2 => ?_⟩
    have sT2 := sameNew nT2 (.tup [vI (numW up), vI (numW dn)])
    have hT2 := sT2 _ _ (s9 _ _ (s8 _ _ hT1))
    refine ⟨T1, T2, _, _, rfl, rfl, SqT.of hT2, SqT.of upd_same, by simp, by show 4 + 2 ≤ sizeLine; decide, fun z => (by cases z), fun _ t ht => ?_⟩
    have st := (h9.trans sT2).trans (sameNew ht (.tup ([V.str nm, vI (numW lo), vI (numW hi), V.str way] ++ [vI (numW up), vI (numW dn)])))
    have hT := upd_same (H := L2.upd H9 T2 (.tup [vI (numW up), vI (numW dn)])) (a := t) (o := .tup ([V.str nm, vI (numW lo), vI (numW hi), V.str way] ++ [vI (numW up), vI (numW dn)]))
    generalize L2.upd (L2.upd H9 T2 (.tup [vI (numW up), vI (numW dn)])) t (.tup ([V.str nm, vI (numW lo), vI (numW hi), V.str way] ++ [vI (numW up), vI (numW dn)])) = HE at st hT
    have tr : TrAll HE ([V.str nm, vI (numW lo), vI (numW hi), V.str way] ++ [vI (numW up), vI (numW dn)]) [.str nm, oI (numW lo), oI (numW hi), .str way, oI (numW up), oI (numW dn)] := .cons (.str _) (.cons (trI _ _) (.cons (trI _ _) (.cons (.str _) (.cons (trI _ _) (.cons (trI _ _) .nil)))))
    have lay := lay_cons (lay_str (nameD_nm cn)) (lay_cons (lay_I (numW lo)) (lay_cons (lay_I (numW hi)) (lay_cons (lay_str (way_nm (inS_mem cw))) (lay_cons (lay_I (numW up)) (lay_cons (lay_I (numW dn)) lay_nil)))))
    refine ⟨x, "dial", _, _, _, t, _, _, rfl, hT, tr, lay.1, lay.2, fun e => ?_, fun e => ?_⟩
    · refine non HE st ?_
      rw [rdw]
      unfold badRow at e
      rw [dial_one] at e
      cases e1 : numW lo with
      | none => rfl
      | some a1 =>
      cases e2 : numW hi with
      | none => rfl
      | some a2 =>
      cases e3 : numW up with
      | none => rfl
      | some a3 =>
      cases e4 : numW dn with
      | none => rfl
      | some a4 =>
        rw [e1, e2, e3, e4] at e
        exact absurd (show (false : Bool) = true from e) (by decide)
    · refine k (.ref t) HE st ?_
      rw [rdw]
      unfold badRow at e
      cases e1 : numW lo with
      | none => rw [e1] at e; exact absurd (show (true : Bool) = false from e) (by decide)
      | some a1 =>
      cases e2 : numW hi with
      | none => rw [e1, e2] at e; exact absurd (show (true : Bool) = false from e) (by decide)
      | some a2 =>
      cases e3 : numW up with
      | none => rw [e1, e2, e3] at e; exact absurd (show (true : Bool) = false from e) (by decide)
      | some a3 =>
      cases e4 : numW dn with
      | none => rw [e1, e2, e3, e4] at e; exact absurd (show (true : Bool) = false from e) (by decide)
      | some a4 =>
        rw [e1, e2, e3, e4] at hT
        exact ⟨t, rfl, hT⟩
  rw [noD c1] at rdw
  rw [decide_eq_false (show ¬ V.str w0 = V.str "dial" from fun z => c1 (V.str.inj z))]
  refine iteF ⟨_, rfl, rfl, _, rfl, ?_⟩
  by_cases c2 : w0 = "one"
  · subst c2
    obtain ⟨o1, o2⟩ := one_bad rest
    refine iteT ⟨by show 1 ≤ sizeLine; decide, fun T1 nT1 => ?_⟩
    have sT1 := sameNew nT1 (.tup [V.str "one"])
    have hR3 := sT1 _ _ hR
    have h3 := h0.trans sT1
    have hT1 : L2.upd H2 T1 (.tup [V.str "one"]) T1 = some (.tup [V.str "one"]) := upd_same
    generalize L2.upd H2 T1 (.tup [V.str "one"]) = H3 at hR3 h3 hT1
    refine ⟨_, rfl, R, rfl, ⟨_, SqL.of hR3⟩, fun D hD => lc_list (K := K) (a := R) (xs := rest.map V.str) (fun i H4 => ∃ ws : List V, H4 D = some (.lst ws) ∧ SaysO H4 ws (rest.take i) ∧ Same H3 H4)
      ⟨[], upd_same, .nil, sameNew hD _⟩ (fun i H4 _ ⟨_, _, _, s4⟩ => SqL.of (s4 _ _ hR3)) ?_ ?_⟩
    · rintro i y H4 hy ⟨ws, e1, p1, s4⟩
      obtain ⟨z, rfl, hz⟩ := strs_get hy
      have il' : i < rest.length := (List.getElem?_eq_some_iff.mp hz).1
      have al := p1.length
      rw [List.length_take] at al
      refine ⟨rfl, _, rfl, z, rfl, wl2 z (List.mem_of_getElem? hz), fun v H5 s5 sv => ?_⟩
      rw [sayL_eq] at sv
      have e2 := s5 _ _ e1
      refine ⟨_, e2, by omega, ws ++ [v], by rw [upd_same], ?_, fun b o e => ?_⟩
      · rw [take_more hz]
        exact .snoc (L2.Paired.mapP p1 fun v x h => (h.same s5).upd e2) (sv.upd e2)
      · rw [upd_ne (ne_of_none e hD)]
        exact s5 _ _ (s4 _ _ e)
    · rintro H4 ⟨ws, e1, p1, s4⟩
      rw [List.length_map, List.take_length] at p1
      have pl := p1.length
      have fin : ∀ (t : Addr) (H' : Hp), Same H4 H' → H' t = some (.tup (V.str "one" :: ws)) → (badRow "one" (.str "one" :: rest.map fun x => oS (sayR x)) = true → Q .non H') ∧ (badRow "one" (.str "one" :: rest.map fun x => oS (sayR x)) = false → Q (.ref t) H') := fun t H' s' ht => by
        have sa := (h3.trans s4).trans s'
        rw [o1]
        cases er : readR ("one" :: rest) with
        | none =>
          rw [er] at rdw
          exact ⟨fun _ => non H' sa rdw, fun e => by cases e⟩
        | some r =>
          rw [er] at rdw
          refine ⟨fun e => (by cases e), fun _ => k (.ref t) H' sa ?_⟩
          rw [rdw]
          obtain ⟨a, b, u, v, rfl, f1, f2, rfl⟩ := o2 r er
          match ws, p1, ht with
          | [x1, x2], .cons q1 (.cons q2 .nil), ht =>
          rw [f1] at q1
          rw [f2] at q2
          obtain ⟨a1, rfl, q1⟩ := q1
          obtain ⟨a2, rfl, q2⟩ := q2
          exact ⟨t, rfl, a1, a2, ht, s' _ _ q1, s' _ _ q2⟩
      have lay : PyData.canLayAll0 (.str "one" :: rest.map fun x => oS (sayR x)) = true ∧ PyData.depthAll (.str "one" :: rest.map fun x => oS (sayR x)) ≤ 1 := lay_cons (lay_str (words_nm _ (by decide +kernel))) (layOs rest)
      refine ⟨D, _, rfl, .inl ⟨SqL.of e1, fun q hq => ?_⟩⟩
      have sq := sameNew hq (.tup ws)
      have hT3 := sq _ _ (s4 _ _ hT1)
      refine ⟨T1, q, _, _, rfl, rfl, SqT.of hT3, SqT.of upd_same, by simp, by show 1 + ws.length ≤ sizeLine; omega, fun z => ?_, fun _ t ht => ?_⟩
      · subst z
        obtain ⟨f1, f2⟩ := fin T1 _ sq hT3
        exact ⟨x, "one", _, _, _, T1, _, _, rfl, hT3, .cons (.str _) (SaysO.tr (L2.Paired.mapP p1 fun v x h => h.same sq)), lay.1, lay.2, f1, f2⟩
      · have st := sq.trans (sameNew ht (.tup ([V.str "one"] ++ ws)))
        obtain ⟨f1, f2⟩ := fin t _ st upd_same
        exact ⟨x, "one", _, _, _, t, _, _, rfl, upd_same, .cons (.str _) (SaysO.tr (L2.Paired.mapP p1 fun v x h => h.same st)), lay.1, lay.2, f1, f2⟩
  rw [decide_eq_false (show ¬ V.str w0 = V.str "one" from fun z => c2 (V.str.inj z))]
  refine iteF ⟨_, rfl, by show 3 ≤ sizeLine; decide, fun T nT => ?_⟩
  have sT := sameNew nT (.tup [V.str "off", V.str "most", V.str "least"])
  have hR3 := sT _ _ hR
  have h3 := h0.trans sT
  refine ⟨.str w0, T, pairs3, .str w0, rfl, .inr (SqT.of upd_same), _, rfl, ?_⟩
  rw [show (pairs3.any fun z => strIs z (.str w0)) = inS pairs3 (.str w0) from rfl]
  generalize L2.upd H2 T (.tup [V.str "off", V.str "most", V.str "least"]) = H3 at hR3 h3
  cases cp : inS pairs3 (.str w0) with
  | false =>
    have e : readR (w0 :: rest) = none := by
      by_cases l3 : rest.length = 3
      · obtain ⟨a, b, f, rfl⟩ := len3 l3
        show (if (inS pairs3 (.str w0) && (nameD (.str a) && nameD (.str b))) = true then _ else none) = none
        rw [cp]
        rfl
      · exact two_read c2 fun a b f z => l3 (by rw [z]; rfl)
    rw [e] at rdw
    exact iteF (iteF (non H3 h3 rdw))
  | true =>
  refine iteT ⟨_, rfl, R, _, rfl, .inl (SqL.of hR3), rfl, _, rfl, ?_⟩
  by_cases l3 : rest.length = 3
  case neg =>
    rw [show decide (V.int (((rest.map V.str).length : Nat) : Int) = V.int 3) = false from (len_dec rest 3).trans (decide_eq_false l3)]
    rw [two_read c2 fun a b f z => l3 (by rw [z]; rfl)] at rdw
    exact iteF (iteF (non H3 h3 rdw))
  obtain ⟨a, b, fg, rfl⟩ := len3 l3
  have hR4 : H3 R = some (.lst [.str a, .str b, .str fg]) := hR3
  have rd : readR [w0, a, b, fg] = if inS pairs3 (.str w0) && (nameD (.str a) && nameD (.str b)) then (match numW fg with | some c => some (.two w0 a b c) | none => none) else none := rfl
  rw [rd, cp] at rdw
  have wl1 := fun (w : Str) (h : w ∈ [a, b, fg]) => wl2 w h
  refine iteT ⟨_, rfl, R, _, _, _, rfl, rfl, SqL.of hR4, rfl, a, rfl, by have := wl1 a (by simp); omega, fun H4 s4 => ⟨_, rfl, ?_⟩⟩
  have hR5 := s4 _ _ hR4
  have h4 := h3.trans s4
  cases an : nameD (.str a) with
  | false =>
    rw [an] at rdw
    exact iteF (iteF (non H4 h4 rdw))
  | true =>
  refine iteT ⟨_, rfl, R, _, _, _, rfl, rfl, SqL.of hR5, rfl, b, rfl, by have := wl1 b (by simp); omega, fun H5 s5 => ⟨_, rfl, ?_⟩⟩
  have hR6 := s5 _ _ hR5
  have h5 := h4.trans s5
  cases bn : nameD (.str b) with
  | false =>
    rw [an, bn] at rdw
    exact iteF (non H5 h5 rdw)
  | true =>
  rw [an, bn] at rdw
  refine iteT ⟨_, rfl, _, rfl, R, _, _, _, rfl, rfl, SqL.of hR6, rfl, _, rfl, R, _, _, _, rfl, rfl, SqL.of hR6, rfl, _, rfl, R, _, _, _, rfl, rfl, SqL.of hR6, rfl, fg, rfl, by have := wl1 fg (by simp); omega, fun H6 s6 => ⟨by show 4 ≤ sizeLine; decide, fun t ht => ?_⟩⟩
  have st := (h5.trans s6).trans (sameNew ht (.tup [V.str w0, V.str a, V.str b, vI (numW fg)]))
  have hT := upd_same (H := H6) (a := t) (o := .tup [V.str w0, V.str a, V.str b, vI (numW fg)])
  generalize L2.upd H6 t (.tup [V.str w0, V.str a, V.str b, vI (numW fg)]) = HE at st hT
  have tr : TrAll HE [V.str w0, V.str a, V.str b, vI (numW fg)] [.str w0, .str a, .str b, oI (numW fg)] := .cons (.str _) (.cons (.str _) (.cons (.str _) (.cons (trI _ _) .nil)))
  have lay := lay_cons (lay_str (pair_nm (inS_mem cp))) (lay_cons (lay_str (nameD_nm an)) (lay_cons (lay_str (nameD_nm bn)) (lay_cons (lay_I (numW fg)) lay_nil)))
  refine ⟨x, w0, _, _, _, t, _, _, rfl, hT, tr, lay.1, lay.2, fun e => ?_, fun e => ?_⟩
  · refine non HE st ?_
    rw [rdw]
    unfold badRow at e
    rw [decide_eq_false c2] at e
    cases e1 : numW fg with
    | none => rfl
    | some c =>
      rw [e1] at e
      exact absurd (show (false : Bool) = true from e) (by decide)
  · refine k (.ref t) HE st ?_
    rw [rdw]
    unfold badRow at e
    cases e1 : numW fg with
    | none => rw [e1] at e; exact absurd (show (true : Bool) = false from e) (by decide)
    | some c =>
      rw [e1] at hT
      exact ⟨t, rfl, hT⟩
end
end Pk
end
section
set_option maxHeartbeats 1000000
/-! zip of three tuples of one length. -/
namespace Pk
open PySem PySem.Spec PyProof.Rows L2
def ItzT3 (K : PySem.W.Frag) (a b c : Addr) : It :=
  ⟨fun i H => ∃ xs ys zs : List V, SqT K H a xs ∧ SqT K H b ys ∧ SqT K H c zs ∧ ys.length = xs.length ∧ zs.length = xs.length ∧ i < xs.length,
    fun i H v H' => ∃ T x y u, v = .ref T ∧ H T = none ∧ H' = upd H T (.tup [x, y, u]) ∧ (∀ xs, SqT K H a xs → xs[i]? = some x) ∧ (∀ ys, SqT K H b ys → ys[i]? = some y) ∧ ∀ zs, SqT K H c zs → zs[i]? = some u,
    fun i H => ∃ xs ys zs : List V, SqT K H a xs ∧ SqT K H b ys ∧ SqT K H c zs ∧ ys.length = xs.length ∧ zs.length = xs.length ∧ i = xs.length⟩
theorem backV {xs : List V} {us : List Value} {i : Nat} {v : Value} (r : Vals xs us) (h : us[i]? = some v) : ∃ x, xs[i]? = some x ∧ RelV x v := by
  have hl := r.length
  obtain ⟨hi, _⟩ := List.getElem?_eq_some_iff.mp h
  have hx : xs[i]? = some (xs[i]'(by omega)) := List.getElem?_eq_getElem (by omega)
  obtain ⟨u, hu, ru⟩ := r.get hx
  rw [h] at hu
  cases hu
  exact ⟨_, hx, ru⟩
theorem turn_zip3 {P : Program} {w : World} {K : PySem.W.Frag} {elts : List Expr} {kk : Nat} {tpos : Pos} {a b c z TI TO i1 i2 i3 : Addr} (S : ZipSep3 z TI TO i1 i2 i3 [i1, a] [i2, b] [i3, c]) (n1 : a ≠ i1) (n2 : b ≠ i2) (n3 : c ≠ i3) :
    Turn P w K (.Tuple elts kk tpos) (ItzT3 K a b c) [z, TI, TO, i1, i2, i3] z (fun i h => IsZip h z TI TO .none ∧ IsTupOf3 h TI (.ref i1) (.ref i2) (.ref i3) ∧ (∃ x y u, IsTupOf3 h TO x y u) ∧ h.IsTupleIter i1 a i ∧ h.IsTupleIter i2 b i ∧ h.IsTupleIter i3 c i) where
  mem := by simp
  obj := fun i h st d hd => by
    obtain ⟨hz, hTI, ⟨x, y, u, hTO⟩, ⟨o1, e1, _, d1⟩, ⟨o2, e2, _, d2⟩, ⟨o3, e3, _, d3⟩⟩ := st
    have e' : d = z ∨ d = TI ∨ d = TO ∨ d = i1 ∨ d = i2 ∨ d = i3 := by simpa using hd
    rcases e' with q | q | q | q | q | q
    · rw [q]; exact ⟨_, hz, fun v q => nomatch q⟩
    · rw [q]; exact ⟨_, hTI, fun v q => nomatch q⟩
    · rw [q]; exact ⟨_, hTO, fun v q => nomatch q⟩
    · rw [q]; exact ⟨o1, e1, fun v q => by rw [d1] at q; cases q⟩
    · rw [q]; exact ⟨o2, e2, fun v q => by rw [d2] at q; cases q⟩
    · rw [q]; exact ⟨o3, e3, fun v q => by rw [d3] at q; cases q⟩
  keep := fun i h h' st k => by
    obtain ⟨hz, hTI, ⟨x, y, u, hTO⟩, h1, h2, h3⟩ := st
    exact ⟨k z (by simp) _ hz, k TI (by simp) _ hTI, ⟨x, y, u, k TO (by simp) _ hTO⟩, h1.at fun o q => k i1 (by simp) o q, h2.at fun o q => k i2 (by simp) o q, h3.at fun o q => k i3 (by simp) o q⟩
  item := by
    intro X hP hw hK hc i pins s σ H E I hf st hg
    subst hP hw hK
    obtain ⟨hz, hTI, hTO, h1, h2, h3⟩ := st
    obtain ⟨xs, ys, zs, hqx, hqy, hqz, ly, lz, hi⟩ := hg
    obtain ⟨its, rv, p, _⟩ := I.tuple hqx
    obtain ⟨its2, rv2, p2, _⟩ := I.tuple hqy
    obtain ⟨its3, rv3, p3, _⟩ := I.tuple hqz
    have e1 := rv.length
    have e2 := rv2.length
    have e3 := rv3.length
    have hh : X.A.in1.handled = none := I.ok.hd hc
    refine (GoesN.zip3 S (Draws.tuple hh i1 a n1 its.toArray) (Draws.tuple hh i2 b n2 its2.toArray) (Draws.tuple hh i3 c n3 its3.toArray)).goes i s _ E (by simp only [List.size_toArray]; omega) ⟨hz, hTI, hTO, ⟨h1, p⟩, ⟨h2, p2⟩, ⟨h3, p3⟩⟩ ?_
    rintro v h' tk ⟨T, vx, vy, vu, rfl, hT, px, py, pu, tT⟩ ⟨z', TI', TO', ⟨h1', _⟩, ⟨h2', _⟩, ⟨h3', _⟩⟩ hk _
    obtain ⟨x, hx, rx⟩ := backV rv (show its[i]? = some vx by simpa using px)
    obtain ⟨y, hy, ry⟩ := backV rv2 (show its2[i]? = some vy by simpa using py)
    obtain ⟨u, hu, ru⟩ := backV rv3 (show its3[i]? = some vu by simpa using pu)
    have new : ObjOk X.prog X.w (upd H T (.tup [x, y, u])) h' T (.tup [x, y, u]) :=
      ⟨by show 3 ≤ sizeLine; decide, [vx, vy, vu], .cons rx (.cons ry (.cons ru .nil)), tT⟩
    have I1 : Inv X pins σ (upd H T (.tup [x, y, u])) { s with heap := h', toks := tk } :=
      I.turnedNew (t' := tk) (ch := [z, TI, TO, i1, i2, i3]) (fun d o hb q => hk d o (fun q' => hb (by simp at q' ⊢; rcases q' with q' | q' | q' | q' | q' <;> simp [q'])) q) hf hT new
    refine ⟨.ref T, _, I1, rfl, ⟨T, x, y, u, rfl, I.hok.fresh hT, rfl, fun l hl => by rw [I.tuple_inj hl hqx]; exact hx, fun l hl => by rw [I.tuple_inj hl hqy]; exact hy, fun l hl => by rw [I.tuple_inj hl hqz]; exact hu⟩, ⟨z', TI', TO', h1', h2', h3'⟩, fun d hdm => ?_⟩
    have hlt : d < s.heap.objs.size := by
      have e' : d = z ∨ d = TI ∨ d = TO ∨ d = i1 ∨ d = i2 ∨ d = i3 := by simpa using hdm
      obtain ⟨_, _, _, hTO⟩ := hTO
      rcases e' with q | q | q | q | q | q
      · rw [q]; exact Heap.lt_size hz
      · rw [q]; exact Heap.lt_size hTI
      · rw [q]; exact Heap.lt_size hTO
      · rw [q]; obtain ⟨_, e1, _⟩ := h1; exact Heap.lt_size e1
      · rw [q]; obtain ⟨_, e2, _⟩ := h2; exact Heap.lt_size e2
      · rw [q]; obtain ⟨_, e3, _⟩ := h3; exact Heap.lt_size e3
    rw [upd_ne (Nat.ne_of_lt (Nat.lt_of_lt_of_le hlt hT))]
    exact (hf d hdm).1
  done := by
    intro X hP hw hK hc i pins s σ H E I hf st hg
    subst hP hw hK
    obtain ⟨hz, hTI, hTO, h1, h2, h3⟩ := st
    obtain ⟨xs, ys, zs, hqx, hqy, hqz, ly, lz, hi⟩ := hg
    obtain ⟨its, rv, p, _⟩ := I.tuple hqx
    obtain ⟨its2, rv2, p2, _⟩ := I.tuple hqy
    obtain ⟨its3, rv3, p3, _⟩ := I.tuple hqz
    have e1 := rv.length
    have e2 := rv2.length
    have e3 := rv3.length
    have hh : X.A.in1.handled = none := I.ok.hd hc
    have en : i = min (min its.toArray.size its2.toArray.size) its3.toArray.size := by simp only [List.size_toArray]; omega
    subst en
    refine (GoesN.zip3 (elts := elts) (x1 := kk) (pos := tpos) S (Draws.tuple hh i1 a n1 its.toArray) (Draws.tuple hh i2 b n2 its2.toArray) (Draws.tuple hh i3 c n3 its3.toArray)).stops s _ E ⟨hz, hTI, hTO, ⟨h1, p⟩, ⟨h2, p2⟩, ⟨h3, p3⟩⟩ ?_
    intro h' tk hk _
    exact I.turnedL (t' := tk) (ch := [z, TI, TO, i1, i2, i3]) (fun d o hb q => hk d o (fun q' => hb (by simp at q' ⊢; rcases q' with q' | q' | q' | q' | q' <;> simp [q'])) q) hf
  self := fun A i s Q E st h => wpAny_pyIter_zip st.1 h
def iZip3 (K : PySem.W.Frag) (ta : TA) : TI := fun σ H R => ta σ H fun vs H1 => ∃ (a b c : Addr) (xs ys zs : List V), vs = [.ref a, .ref b, .ref c] ∧ SqT K H1 a xs ∧ SqT K H1 b ys ∧ SqT K H1 c zs ∧ R (ItzT3 K a b c) H1
theorem pi_zip3 {X : Cx} {e e2 e3 : Expr} {ta : TA} {p pos tpos : Pos} {elts : List Expr} {kk : Nat} (hg : Gl X "zip") (hm : X.mg "zip" = none) (ha : PA X [e, e2, e3] ta)
    (hs : starEach [e, e2, e3] X.env = (false, eval e X.env) :: starEach [e2, e3] X.env := by rfl) (hpl : (backTo pos (starEach [e2, e3] X.env)).any (·.1) = false := by rfl) :
    PI X (.Tuple elts kk tpos) (.Call (.Name "zip" p) [e, e2, e3] [] pos) (iZip3 X.K ta) := by
  refine ⟨fun pins s σ H R I h => ?_⟩
  refine Call_ (ld_blt I hg hm PyProof.Rows.boot_zip (PyProof.Rows.callWith_type1 (thn (ha.run pos pins s σ H _ I h) fun us s1 ⟨vs, H1, I1, r1, q1⟩ => ?_) hs hpl))
  obtain ⟨a, b, c, xs, ys, zs, ex, hqx, hqy, hqz, q⟩ := q1
  subst ex
  cases r1 with
  | cons r rr =>
  cases rr with
  | cons r' rr =>
  cases rr with
  | cons r'' rr =>
  cases rr
  cases r
  cases r'
  cases r''
  obtain ⟨its, rv, p1, _⟩ := I1.tuple hqx
  obtain ⟨its2, rv2, p2, _⟩ := I1.tuple hqy
  obtain ⟨its3, rv3, p3, _⟩ := I1.tuple hqz
  have l1 : a < s1.heap.objs.size := let ⟨_, e, _⟩ := p1; Heap.lt_size e
  have l2 : b < s1.heap.objs.size := let ⟨_, e, _⟩ := p2; Heap.lt_size e
  have l3 : c < s1.heap.objs.size := let ⟨_, e, _⟩ := p3; Heap.lt_size e
  refine zip_begins3 (begins_tuple a its.toArray) (begins_tuple b its2.toArray) (begins_tuple c its3.toArray) p1 p2 p3 fun h' hz hTI hTO h1 h2 h3 hsz hk => wpAny_pyIter_zip hz ?_
  have I2 : Inv X pins σ H1 { s1 with heap := h' } := I1.kept (t' := s1.toks) hk
  have one : ∀ {q n : Addr}, q < n → ∀ d ∈ [q], d < n := fun h d hd => by rw [List.mem_singleton.mp hd]; exact h
  refine ⟨s1.heap.objs.size + 5, [s1.heap.objs.size + 5, s1.heap.objs.size + 3, s1.heap.objs.size + 4, s1.heap.objs.size, s1.heap.objs.size + 1, s1.heap.objs.size + 2], _, _, H1, rfl, I2, turn_zip3 (zip_sep3 (one l1) (one l2) (one l3)) (Nat.ne_of_lt l1) (Nat.ne_of_lt (Nat.lt_succ_of_lt l2)) (Nat.ne_of_lt (Nat.lt_succ_of_lt (Nat.lt_succ_of_lt l3))), ⟨hz, hTI, ⟨_, _, _, hTO⟩, ⟨_, h1, rfl, rfl⟩, ⟨_, h2, rfl, rfl⟩, ⟨_, h3, rfl, rfl⟩⟩, fun d hdm => ?_, q⟩
  have hle : s1.heap.objs.size ≤ d := by
    have e' : d = s1.heap.objs.size + 5 ∨ d = s1.heap.objs.size + 3 ∨ d = s1.heap.objs.size + 4 ∨ d = s1.heap.objs.size ∨ d = s1.heap.objs.size + 1 ∨ d = s1.heap.objs.size + 2 := by simpa using hdm
    rcases e' with z | z | z | z | z | z <;> rw [z] <;> first | exact Nat.le_add_right _ _ | exact Nat.le_refl _
  exact I1.fpOk hle (I1.hok.fresh hle)
def YTrip (xs ys zs : Nat → Option V) : Nat → Hp → V → Hp → Prop := fun i H v H' => ∃ T x y u, v = .ref T ∧ H T = none ∧ H' = upd H T (.tup [x, y, u]) ∧ xs i = some x ∧ ys i = some y ∧ zs i = some u
theorem walk_zip3 {K : PySem.W.Frag} {a b c : Addr} {xs ys zs : List V} (ly : ys.length = xs.length) (lz : zs.length = xs.length) : Walk (ItzT3 K a b c) xs.length (fun H => SqT K H a xs ∧ SqT K H b ys ∧ SqT K H c zs) (YTrip (fun i => xs[i]?) (fun i => ys[i]?) (fun i => zs[i]?)) where
  goes := fun i H hi h => ⟨xs, ys, zs, h.1, h.2.1, h.2.2, ly, lz, hi⟩
  stops := fun H h => ⟨xs, ys, zs, h.1, h.2.1, h.2.2, ly, lz, rfl⟩
  yields := fun i H x H' hi h ⟨T, u, v, w, e1, e2, e3, e4, e5, e6⟩ => ⟨T, u, v, w, e1, e2, e3, e4 xs h.1, e5 ys h.2.1, e6 zs h.2.2⟩
end Pk
end
section
set_option maxHeartbeats 1000000
/-! An error that was kept, with fields. -/
namespace Pk
open PySem PySem.Spec PyProof.Rows L2
section
variable {X : Cx}
/-- at a: an error that was kept, of the class at C, with these fields -/
def KeptF (H : Hp) (a C : Addr) (fs : List (Str × V)) : Prop := ∃ d, H a = some (keptX a (.ref C) (some d)) ∧ H d = some (.xd fs)
theorem keptF_at {pz : List (Addr × Obj)} {σ : L2.St} {H : Hp} {s : Shared} {a C : Addr} {fs : List (Str × V)} (I : L2.Inv X pz σ H s) (e : KeptF H a C fs) : ∃ (oe oq : Obj) (mq : Str → Option Value) (d : Addr), PySem.W.InstAt s.heap a oe C (some oq) ∧ (∀ f, RelO (fs.lookup f) (mq f)) ∧ s.heap.Ns1 d mq ∧ s.heap.get? d = some oq ∧ oe.dict = some d ∧ (∃ vs, oe.data = .fields vs) := by
  obtain ⟨d, e1, e2⟩ := e
  obtain ⟨⟨oe, vs, ho, hy, hd⟩, _, _⟩ := I.hok a _ e1
  obtain ⟨mq, hn, hr⟩ := (show ObjOk X.prog X.w H s.heap d (.xd fs) from I.hok d _ e2)
  obtain ⟨oq, hq, hl⟩ := lookIn_ns hn
  refine ⟨oe, oq, mq, d, ?_, hr, hn, hq, hy.2, vs, hd⟩
  obtain ⟨oc, oqd, oda, osl⟩ := oe
  obtain ⟨h1, h2⟩ := hy
  dsimp only at h1 h2 hd
  subst h1 h2 hd
  exact ⟨ho, rfl, rfl, hq⟩
/-- e.f of such an error -/
theorem pe_kf {e : Expr} {te : TE} {pos : Pos} {n : Str} (he : PE X e te) (hb : attributeBase e n X.env (eval e X.env) = eval e X.env := by rfl) :
    PE X (.Attribute e n pos) (fun σ H Q => te σ H fun x Ha => ∃ (a C : Addr) (fs : List (Str × V)) (v : V), x = .ref a ∧ KeptF Ha a C fs ∧ XfC X.K C ∧ PySem.W.findIn X.K (.ref C) n = some none ∧ fs.lookup n = some v ∧ Q v Ha) := by
  refine ⟨fun pz s σ H Q I h => ?_⟩
  refine attr_of hb (thn (he.run pz s σ H _ I h) fun u sa hw => ?_)
  obtain ⟨x, Ha, Ia, ry, a, C, fs, v, ex, ea, TT, hnn, l, q⟩ := hw
  subst ex
  cases (show u = .ref a from ry)
  obtain ⟨oe, oq, mq, d, J, hr, hn, hq, _⟩ := keptF_at Ia ea
  obtain ⟨oq', ho, hl⟩ := lookIn_ns hn
  rw [hq] at ho
  cases ho
  obtain ⟨u, hu, ru⟩ := RelO.some_of (v := v) (o := mq n) (by rw [← l]; exact hr n)
  exact HandSPX.exc_get Ia.kIn J TT.ga TT.gg TT.exC (PySem.W.findObj_own TT.hdC hnn rfl (by rw [hl, hu])) (handed_of ru) ⟨v, Ha, Ia.tok _, ru, q⟩
theorem keptF_kit {pz : List (Addr × Obj)} {σ : L2.St} {H : Hp} {s : Shared} {a C : Addr} {fs : List (Str × V)} (I : L2.Inv X pz σ H s) (e : KeptF H a C fs) (TT : ExcC X.K C) : ∃ P : Heap → Prop, PySem.W.KitX X.K (.ref a) (.ref C) P ∧ P s.heap := by
  have hcl : (PySem.W.clsIn X.K C).isSome = true := by
    obtain ⟨cd, hc, _⟩ := PySem.W.any_some TT.hd
    rw [hc]
    rfl
  obtain ⟨oe, oq, mq, d, J, _⟩ := keptF_at I e
  exact ⟨_, PySem.W.kitx_exc (ox := oe) (od := some oq) hcl TT.hg TT.hk TT.hs TT.ha TT.hn TT.ht TT.hm, J⟩
theorem call_isF : CallR X (.builtin "isinstance") (fun xs H Q => ∃ (a C : Addr) (fs : List (Str × V)) (c : V) (u : Value) (b : Bool), xs = [.ref a, c] ∧ KeptF H a C fs ∧ ExcC X.K C ∧ ClsV c u ∧ PySem.W.kitOne X.K (.ref C) u = some b ∧ Q (.bl b) H) := by
  intro pz s σ H xs ua Q I r h
  obtain ⟨a, C, fs, c, u, b, rfl, ea, TT, k, e, q⟩ := h
  obtain ⟨u1, u2, rfl, ra, rb⟩ := vals2 r
  have e2 := k.eq rb
  subst e2
  cases (show u1 = Value.ref a from ra)
  obtain ⟨P, Z, p⟩ := keptF_kit I ea TT
  exact PySem.W.kia_one Z I.kIn p e (fun z => nomatch z) fun tz => ⟨.bl b, H, I.tok tz, rfl, q⟩
theorem call_isFT : CallR X (.builtin "isinstance") (fun xs H Q => ∃ (a C : Addr) (fs : List (Str × V)) (tp : Addr) (cs : List V) (ws : List Value) (b : Bool), xs = [.ref a, .ref tp] ∧ KeptF H a C fs ∧ ExcC X.K C ∧ H tp = some (.tup cs) ∧ Paired ClsV cs ws ∧ PySem.W.kitAny X.K (.ref C) ws = some b ∧ Q (.bl b) H) := by
  intro pz s σ H xs ua Q I r h
  obtain ⟨a, C, fs, tp, cs, ws, b, rfl, ea, TT, htp, k, e, q⟩ := h
  obtain ⟨u1, u2, rfl, ra, rb⟩ := vals2 r
  cases (show u2 = Value.ref tp from rb)
  cases (show u1 = Value.ref a from ra)
  obtain ⟨P, Z, p⟩ := keptF_kit I ea TT
  obtain ⟨_, itz, rz, o, h1, h2, n, h3⟩ := (show ObjOk X.prog X.w H s.heap tp (.tup cs) from I.hok tp _ htp)
  have e3 := ClsV.all k rz
  subst e3
  obtain ⟨oc, oq, dt, sl⟩ := o
  simp only at h2 h3
  subst h2 h3
  exact PySem.W.kia_tup Z I.kIn p h1 e (fun z => nomatch z) fun tz => ⟨.bl b, H, I.tok tz, rfl, q⟩
end
end Pk
end
section
set_option maxHeartbeats 1000000
/-! sorted(set(xs)), xs a list of texts. -/
namespace Pk
open PySem PySem.Spec PyProof.Rows L2 PySem.Froz
theorem perm_cover {α : Type} [DecidableEq α] : ∀ (l : List α) (m : List α), l.Nodup → (∀ x ∈ l, x ∈ m) → m.length ≤ l.length → m.Perm l
  | [], m, _, _, hl => by
    have e : m = [] := List.length_eq_zero_iff.mp (by simpa using hl)
    rw [e]
  | x :: l, m, nd, hs, hl => by
    rw [List.nodup_cons] at nd
    have hx := hs x (List.mem_cons_self ..)
    have lm : (m.erase x).length = m.length - 1 := List.length_erase_of_mem hx
    have ih := perm_cover l (m.erase x) nd.2 (fun y hy => (List.mem_erase_of_ne (fun (e : y = x) => nd.1 (e ▸ hy))).mpr (hs y (List.mem_cons_of_mem _ hy))) (by rw [lm]; simp at hl; omega)
    exact (List.perm_cons_erase hx).trans (ih.cons x)
/-- at a: a set of the texts l, whose table can be walked -/
def TxSet (P : Program) (w : World) (h : Heap) (a : Addr) (l : List Str) : Prop :=
  ∃ D : SD, h.get? a = some (sObj "set" D) ∧ TxOk P w D l ∧ l.Nodup ∧ Ris D.2.2.place.toList ∧ (w.params.followText "set-order" = true ∨ D.2.2.led = true)
theorem TxSet.keep {P : Program} {w : World} {h h' : Heap} {a : Addr} {l : List Str} (T : TxSet P w h a l) (k : ∀ o, h.get? a = some o → h'.get? a = some o) : TxSet P w h' a l := by
  obtain ⟨D, ho, q⟩ := T
  exact ⟨D, k _ ho, q⟩
theorem tail_ris {ep : Nat} {es : Array (Int × Value)} {t : SetTable} {wd : Bool} (r : Ris t.place.toList) : Ris (tailTx ep es t wd).2.2.place.toList := by
  unfold tailTx
  by_cases c : (!wd && t.tooFull) = true
  · rw [if_pos c]; exact relayAll_ris _ _ _
  · rw [if_neg c]; exact r
theorem tail_led {ep : Nat} {es : Array (Int × Value)} {t : SetTable} {wd : Bool} : (tailTx ep es t wd).2.2.led = t.led := by
  unfold tailTx
  by_cases c : (!wd && t.tooFull) = true
  · rw [if_pos c]; exact relayAll_led _ _ _
  · rw [if_neg c]
theorem tx_ris {h : Int} {v : Value} {D : SD} (r : Ris D.2.2.place.toList) : Ris (addTx h v D).2.2.place.toList := by
  have q := layNew_ris D.2.2 D.1 h v r
  refine tail_ris ?_
  split <;> exact q
theorem tx_led {h : Int} {v : Value} {D : SD} : (addTx h v D).2.2.led = D.2.2.led := by
  have q := layNew_led D.2.2 D.1 h v
  refine tail_led.trans ?_
  split <;> exact q
section
variable {P : Program} {w : World} {A : Around} {E : Value → Shared → Prop} {s : Shared}
theorem tx_fresh {h : Heap} {a : Addr} (ho : h.get? a = some (sObj "set" (#[], 0, .fresh 0 0 (!w.params.followText "set-order")))) : TxSet P w h a [] := by
  refine ⟨_, ho, TxOk.nil rfl, List.nodup_nil, List.Pairwise.nil, ?_⟩
  show _ ∨ (!w.params.followText "set-order") = true
  cases w.params.followText "set-order" with
  | false => exact .inr rfl
  | true => exact .inl rfl
theorem tx_add {a : Addr} {k : Str} {u : Tok} {l : List Str} {Q : Bool → Shared → Prop} (T : TxSet P w s.heap a l) (hb : l.length + 1 < scanBound)
    (hQ : ∀ (b : Bool) (h' : Heap), Heap.SameBut a s.heap h' → TxSet P w h' a (if k ∈ l then l else k :: l) → Q b { s with heap := h' }) :
    wpAny (model P w) A (setAddHashed a (.str k u) ((strKind P w).hash k)) Q E s := by
  obtain ⟨D, ho, F, nd, r, ld⟩ := T
  by_cases hk : k ∈ l
  · rw [if_pos hk] at hQ
    obtain ⟨es, ep, t⟩ := D
    obtain ⟨e, he, q⟩ := (F.mem k).mp hk
    have hz : es.size = l.length := F.sz
    have el : ElemsOf (strKind P w) es.toList := F.el
    have ft : t.fits es.size = true := F.fit
    unfold setAddHashed setAddHashedIn
    refine wpAny_holding (wpAny_bind (wpAny_setState_of ho rfl ft ?_))
    dsimp only; rw [byScan_of rfl (by omega) el]; simp only [↓reduceIte]; unfold setAddByScan
    refine wpAny_bind (wpAny_bind (wpAny_rule (wpAny_bind (wpAny_setScan_of (knd := strKind P w) (k := k) (is_str k u) ho rfl ft el ?_))))
    cases fi : List.findIdx? (fun e => (strKind P w).is k e.2) es.toList with
    | none =>
      have c := List.findIdx?_eq_none_iff.mp fi e he
      rw [show (strKind P w).is k e.2 = true from q] at c
      cases c
    | some j =>
      dsimp only
      exact wpAny_pure (wpAny_pure (hQ false s.heap (Heap.SameBut.refl a s.heap) ⟨_, ho, F, nd, r, ld⟩))
  · rw [if_neg hk] at hQ
    refine add_x ho F hk hb (hQ true _ (Heap.SameBut.update s.heap a _) ⟨_, get_upd _ ho rfl, add_ok u F, List.nodup_cons.mpr ⟨hk, nd⟩, tx_ris r, ld.imp id fun z => tx_led.trans z⟩)
theorem take_one {xs : List Str} {i : Nat} (h : i < xs.length) : xs.take (i + 1) = xs.take i ++ [xs.getD i Str.empty] := by
  rw [List.take_succ_eq_append_getElem h, List.getD_eq_getElem?_getD, List.getElem?_eq_getElem h]
  rfl
theorem tx_loop {R : Result → Shared → Prop} {I : Addr} {fp wr : List Addr} {G : Array GenState → Array GenState → Prop} {n : Nat} {Pv : Nat → Value → Prop} {St : Nat → Shared → Prop}
    (W : WalksS P w A.in1 I fp wr G n Pv St) (S : Addr) (hSf : S ∉ fp) (xs : List Str) (hn : xs.length = n) (hb : xs.length + 1 < scanBound) (hv : ∀ i v, Pv i v → ∃ t, v = .str (xs.getD i Str.empty) t) :
    ∀ (m i : Nat) (s : Shared), n - i = m → i ≤ n → St i s → (∃ l, TxSet P w s.heap S l ∧ l.length ≤ i ∧ ∀ y, y ∈ l ↔ y ∈ xs.take i) →
      (∀ s' l, Moved (S :: wr) G s s' → TxSet P w s'.heap S l → l.length ≤ n → (∀ y, y ∈ l ↔ y ∈ xs) → R (.ok (.ret .none)) s') →
      codeAny (model P w) A (.builtin "set.update.loop" ⟨[.ref S, .ref I], []⟩) R s := by
  have sw : S ∉ wr := fun z => hSf (W.sub _ z)
  have up : ∀ b ∈ wr, b ∈ S :: wr := fun b z => List.mem_cons_of_mem _ z
  intro m
  induction m with
  | zero =>
    rintro i s e1 e2 st ⟨l, T, ll, lm⟩ hR
    obtain rfl : i = n := by omega
    refine codeAny_builtin F.entry_set_update_loop ?_; rw [Around.under_plainId F.plain_set_update_loop _]
    show wpAny _ A.in1 (pyNext (.ref I) >>= fun _ => _) _ _ s
    refine wpAny_bind (W.done s _ _ st fun s' mv => ?_)
    show wpAny _ A.in1 (ret Value.none) _ _ _; refine wpAny_pure (hR s' l (mv.mono up) (T.keep fun o z => mv.heap S o sw z) ll fun y => ?_)
    rw [lm y, ← hn, List.take_length]
  | succ m ih =>
    rintro i s e1 e2 st ⟨l, T, ll, lm⟩ hR
    have lt : i < n := by omega
    refine codeAny_builtin F.entry_set_update_loop ?_; rw [Around.under_plainId F.plain_set_update_loop _]
    show wpAny _ A.in1 (pyNext (.ref I) >>= fun _ => _) _ _ s
    refine wpAny_bind (W.item i s _ _ lt st fun v s' pv st' mv => ?_)
    obtain ⟨t, rfl⟩ := hv i v pv
    have T' : TxSet P w s'.heap S l := T.keep fun o z => mv.heap S o sw z
    show wpAny _ A.in1 (holding [Value.str (xs.getD i Str.empty) t] (setAdd S (.str (xs.getD i Str.empty) t)) >>= fun _ => _) _ _ s'
    refine wpAny_bind (wpAny_holding ?_); unfold setAdd
    refine wpAny_holding (wpAny_bind ((strKind P w).pyHash (k := xs.getD i Str.empty) (strKind_is _ _ _ _) ?_))
    refine tx_add (s := { s' with toks := s'.toks + 1 }) T' (by omega) fun b h' sb T2 => ?_
    have keep : ∀ b o, b ≠ S → s'.heap.get? b = some o → h'.get? b = some o := fun b o z e => by rw [sb.2 b z]; exact e
    refine wpAny_pure ⟨plainId_quiet F.plain_set_update_loop _, ih (i + 1) _ (by omega) lt (W.frame _ s' _ _ st' (Nat.le_succ _) fun b z o e => keep b o (fun q => hSf (q ▸ z)) e) ⟨_, T2, ?_, fun y => ?_⟩ fun s2 l2 mv2 => hR s2 l2 (Moved.trans W.gtrans ((mv.mono up).then_heap (Nat.le_succ _) fun b o z e => keep b o (fun q => z (by rw [q]; exact List.mem_cons_self)) e) mv2)⟩
    · split
      · omega
      · rw [List.length_cons]; omega
    · rw [take_one (by omega), List.mem_append, List.mem_singleton, ← lm y]
      split
      · rename_i c
        exact ⟨.inl, fun z => z.elim id fun e => by rw [e]; exact c⟩
      · rw [List.mem_cons]
        exact Or.comm
abbrev nset (w : World) : Obj := { cls := .type "set", dict := none, data := .set #[] 0 (.fresh 0 0 (!w.params.followText "set-order")) }
set_option maxRecDepth 100000 in
set_option maxHeartbeats 3200000 in
theorem set_texts {l : Addr} {items : Array Value} (xs : List Str) {Q : Value → Shared → Prop} (hh : A.handled = none) (hl : s.heap.IsList l items) (hi : StrsAre items.toList xs) (hb : xs.length + 1 < scanBound)
    (h : ∀ (h' : Heap) (tk : Nat) (zs : List Str), TxSet P w h' s.heap.objs.size zs → zs.length ≤ xs.length → (∀ y, y ∈ zs ↔ y ∈ xs) → (∀ b o, s.heap.get? b = some o → h'.get? b = some o) → Q (.ref s.heap.objs.size) { s with heap := h', toks := tk }) :
    wpAny (model P w) A (call (.type "set") [.ref l]) Q E s := by
  have hz : xs.length = items.size := by rw [← StrsAre.len_eq hi, Array.length_toList]
  obtain ⟨c, tl, em⟩ := F.called_set.mro; have e0 := F.called_set.made; have e1 := F.called_set.sub
  refine wpAny_call (codeAny_of_tree ?_); show wpAny _ _ (callAny (.type "set") _) _ _ _
  refine wpAny_pure ⟨Code.quiet_builtin _ (by decide +kernel), codeAny_builtin F.entry_type_call ?_⟩; rw [Around.under_plain (weight_type_call_type "set" [.ref l] []) rfl]
  have e2 := F.called_set.notType; have e3 := F.called_set.canCreate; have e4 := F.typeCall_set_1 (.ref l)
  repeat (any_goals (first | assumption | wp_step))
  refine codeAny_mono (code_set_led1 (.ref l) (E := E) (Q₁ := fun obj s₁ => obj = .ref s.heap.objs.size ∧ s₁ = { s with heap := s.heap.push (nset w) }) ⟨rfl, rfl⟩) fun r s₁ hr => ?_
  cases r with
  | error e => exact hr
  | ok fl =>
    cases fl with
    | ret obj =>
      obtain ⟨rfl, rfl⟩ := hr
      have hS : (s.heap.push (nset w)).get? s.heap.objs.size = some (nset w) := Heap.get?_push_size _ rfl
      have hT : Shared.TypeIs { s with heap := s.heap.push (nset w) } (.ref s.heap.objs.size) "set" := ⟨_, hS, rfl⟩
      have e5 := F.called_set.init.lookup; have e6 := F.called_set.init.bind (.ref s.heap.objs.size)
      repeat (any_goals (first | assumption | wp_step))
      refine codeAny_mono (codeAny_call_builtin (R := wants (fun r s₂ => r = .none ∧ ∃ h' tk zs, s₂ = { s with heap := h', toks := tk } ∧ TxSet P w h' s.heap.objs.size zs ∧ zs.length ≤ xs.length ∧ (∀ y, y ∈ zs ↔ y ∈ xs) ∧
          (∀ b o, s.heap.get? b = some o → h'.get? b = some o)) E) F.called_set.init.plain F.entry_set_init (check_set_init_1 hT ?_)) fun r₂ s₂ hr₂ => ?_
      · obtain ⟨⟨oc, od, oda, osl⟩, hol, hc, nl, hd⟩ := hl
        simp only at hc hd; subst hc; subst hd
        have hol' : (s.heap.push (nset w)).get? l = some { cls := .type "list", dict := od, data := .seq items nl, slots := osl } := Heap.get?_push_of_some _ hol
        have f1 := F.sub_list_set; have f2 := F.sub_list_frozenset
        have f3 : (Value.type "list" == Value.type "dict") = false := by decide +kernel
        have hl1 : (s.heap.push (nset w)).IsList l items := ⟨_, hol', rfl, nl, rfl⟩
        unfold Builtin.«set.__init__» noKeywords Builtin.Frozenset.updateFrom; generalize hPI : pyIter = PI
        wp_walk
        subst hPI
        refine wpAny_pyIter_list hl1 (wpAny_bind (wpAny_runValue ?_))
        have lS : l < s.heap.objs.size := Heap.lt_size hol
        have h3 : A.in1.in1.in1.handled = none := by simp [hh]
        have z1 : (s.heap.push (nset w)).objs.size = s.heap.objs.size + 1 := Heap.size_push ..
        have ne : l ≠ (s.heap.push (nset w)).objs.size := by rw [z1]; exact Nat.ne_of_lt (Nat.lt_succ_of_lt lS)
        have nf : s.heap.objs.size ∉ [(s.heap.push (nset w)).objs.size, l] := by
          rw [z1, List.mem_cons, List.mem_singleton]
          exact fun z => z.elim (Nat.ne_of_lt (Nat.lt_succ_self _)) (Nat.ne_of_gt lS)
        have hv : ∀ (i : Nat) (v : Value), items[i]? = some v → ∃ t, v = .str (xs.getD i Str.empty) t := fun i v e => SS.strs_at hi i v (by rw [Array.getElem?_toList]; exact e)
        refine tx_loop ((Walks.list h3 _ l ne items).toS) s.heap.objs.size nf xs hz hb hv (items.size - 0) 0 _ (by omega) (Nat.zero_le _) ⟨⟨_, Heap.get?_push_size _ rfl, rfl, rfl⟩, (hl1.push _)⟩ ⟨[], ?_, Nat.le_refl _, fun y => by simp⟩ fun s' zs mv T lz mz => ?_
        · exact tx_fresh (Heap.get?_push_of_some _ hS)
        · obtain ⟨h', g2, d', tk', os'⟩ := s'
          obtain rfl : g2 = s.gens := mv.gens
          obtain rfl : d' = s.drawn := mv.drawn
          obtain rfl : os' = s.os := mv.os
          show wpAny _ _ _ _ _ _; refine wpAny_pure ?_; show wpAny _ _ (ret Value.none) _ _ _
          refine wpAny_pure ⟨rfl, h', tk', zs, rfl, T, by rw [hz]; exact lz, mz, fun b o e => mv.heap b o (fun z => ?_) (Heap.get?_push_of_some _ (Heap.get?_push_of_some _ e))⟩
          have lb := Heap.lt_size e
          rw [List.mem_cons, List.mem_singleton] at z
          rcases z with z | z
          · rw [z] at lb; exact Nat.lt_irrefl _ lb
          · rw [z] at lb
            have lb' : (s.heap.push (nset w)).objs.size < s.heap.objs.size := lb
            rw [z1] at lb'
            omega
      · cases r₂ with
        | error e => exact hr₂
        | ok fl₂ =>
          cases fl₂ with
          | ret r =>
            obtain ⟨rfl, h', tk, zs, rfl, T, lz, mz, kp⟩ := hr₂
            repeat (any_goals (first | assumption | wp_step))
            exact h _ _ _ T lz mz kp
          | _ => exact hr₂.elim
    | _ => exact hr.elim
theorem texts_all : ∀ (vs : List Value), (∀ v ∈ vs, ∃ (k : Str) (t : Tok), v = Value.str k t) → ∃ ks : List Str, StrsAre vs ks
  | [], _ => ⟨[], .nil⟩
  | v :: vs, h => by
    obtain ⟨k, t, rfl⟩ := h v (List.mem_cons_self ..)
    obtain ⟨ks, q⟩ := texts_all vs fun u hu => h u (List.mem_cons_of_mem _ hu)
    exact ⟨k :: ks, .cons k t q⟩
theorem texts_mem : ∀ {vs : List Value} {ks : List Str}, StrsAre vs ks → ∀ y, y ∈ ks → ∃ t, Value.str y t ∈ vs
  | _, _, .nil, y, h => by cases h
  | _, _, .cons k t q, y, h => by
    rcases List.mem_cons.mp h with rfl | h
    · exact ⟨t, List.mem_cons_self ..⟩
    · obtain ⟨u, hu⟩ := texts_mem q y h
      exact ⟨u, List.mem_cons_of_mem _ hu⟩
theorem texts_mem2 : ∀ {vs : List Value} {ks : List Str}, StrsAre vs ks → ∀ y t, Value.str y t ∈ vs → y ∈ ks
  | _, _, .nil, y, t, h => by cases h
  | _, _, .cons k u q, y, t, h => by
    rcases List.mem_cons.mp h with e | h
    · injection e with e _
      rw [e]
      exact List.mem_cons_self ..
    · exact List.mem_cons_of_mem _ (texts_mem2 q y t h)
theorem sorted_texts {a : Addr} {l : List Str} {Q : Value → Shared → Prop} (T : TxSet P w s.heap a l) (hh : A.handled = none) (h64 : l.length < 64)
    (hQ : ∀ s' p (out : Array Value) (c : Nat) (ys : List Str), (∀ b o, s.heap.get? b = some o → s'.heap.get? b = some o) → s'.gens = s.gens → s'.os = s.os → s.heap.objs.size ≤ p →
      s'.heap.get? p = some (seqObj "list" out c) → StrsAre out.toList ys → ys.Perm l → sortedS ys = true → Q (.ref p) s') :
    wpAny (model P w) A (call (.builtin "sorted") [.ref a]) Q E s := by
  obtain ⟨⟨es, ep, t⟩, ho, F, nd, r, ld⟩ := T
  have sz : es.size = l.length := F.sz
  refine Calls.call_function_entry kind_sorted plain_sorted entry_sorted (args_sorted1 _) ?_; unfold Builtin.«sorted»
  refine wpAny_bind (m := checkCount "sorted" 1 1 _) (wpAny_pure (wpAny_bind (collect_set (A := A.in1) hh ⟨_, ho, rfl, rfl⟩ F.fit (by rw [sz]; unfold scanBound; omega) r ld fun s1 vs k1 z1 g1 o1 pm => ?_)))
  have is1 : ∀ v ∈ vs, ∃ (k : Str) (t : Tok), v = Value.str k t ∧ k ∈ l := fun v hv => by
    obtain ⟨e, he, q⟩ := List.mem_map.mp (pm.mem_iff.mp hv)
    obtain ⟨⟨k, ek, _⟩, _⟩ := F.el e he
    obtain ⟨t', et⟩ := Value.isStrOf_shape (x := k) (v := e.2) ek
    exact ⟨k, t', by rw [← q]; exact et, (F.mem k).mpr ⟨e, he, ek⟩⟩
  obtain ⟨ks, hS⟩ := texts_all vs fun v hv => by
    obtain ⟨k, t, e, _⟩ := is1 v hv
    exact ⟨k, t, e⟩
  have lv : vs.length = l.length := by rw [pm.length_eq, List.length_map, Array.length_toList]; exact sz
  have lk : ks.length = l.length := by rw [← StrsAre.len_eq hS]; exact lv
  have pk : ks.Perm l := perm_cover l ks nd (fun y hy => by
    obtain ⟨e, he, q⟩ := (F.mem y).mp hy
    obtain ⟨t', et⟩ := Value.isStrOf_shape (x := y) (v := e.2) q
    exact texts_mem2 hS y t' (pm.mem_iff.mpr (List.mem_map.mpr ⟨e, he, et⟩))) (by omega)
  refine wpAny_bind (wpAny_newList ?_ (by rw [lv, sizeLine_eq]; omega))
  have hL : (s1.heap.push (seqObj "list" vs.toArray 0)).get? s1.heap.objs.size = some (seqObj "list" vs.toArray 0) := Heap.get?_push_size _ rfl
  refine wpAny_bind (wpAny_holding (wpAny_call_entry PyProof.Rows.slot_list_sort ⟨_, hL, rfl⟩ PyProof.Rows.entry_list_sort (list_sort_treeK strKind_oneLt (s := { s1 with heap := s1.heap.push (seqObj "list" vs.toArray 0) }) hL hS.keysOf (fun v₁ v₂ rest e => keyKind_strs (by rw [← e]; exact hS)) (by rw [lv]; exact h64) fun st' hp hs => ⟨_, rfl, ?_⟩) (PyProof.Rows.args_list_sort _)))
  obtain ⟨ys, y1, y2, y3⟩ := sorted_out_str hS hp hs
  obtain ⟨c, hc⟩ := PyProof.Rows.sortedHeap_at (vs := vs) (out := (arrOf st').map (·.2)) hL
  refine wpAny_pure ⟨_, rfl, hQ _ s1.heap.objs.size _ c ys (fun b u e => ?_) g1 o1 z1 hc y1 (y2.trans pk) y3⟩
  have q := k1 b u e
  have lb := Heap.lt_size q
  show (PyProof.Rows.sortedHeap (s1.heap.push (seqObj "list" vs.toArray 0)) s1.heap.objs.size vs _).get? b = some u; rw [PyProof.Rows.sortedHeap_old (Nat.ne_of_lt lb) (by rw [Heap.size_push]; exact Nat.lt_succ_of_lt lb)]
  exact Heap.get?_push_of_some _ q
end
/-- a set of texts, as the heap has it -/
def TxO (P : Program) (w : World) (a : Addr) (l : List Str) : HO := .ext fun h => TxSet P w h a l
section
variable {X : Cx}
theorem txO_new {P : Program} {w : World} {H : Hp} {h : Heap} {a : Addr} {l : List Str} (T : TxSet P w h a l) : ObjOk P w H h a (TxO P w a l) := by
  have ⟨D, ho, _⟩ := T
  exact ⟨T, ⟨_, ho⟩, fun h1 h2 p k => TxSet.keep p k⟩
/-- set(xs), a list of texts -/
def rSetTx (K : PySem.W.Frag) (P : Program) (w : World) : List V → Hp → VK → Prop := fun vs H Q => ∃ (l : Addr) (xs : List Str), vs = [V.ref l] ∧ SqL K H l (xs.map V.str) ∧ xs.length < 64 ∧
  ∀ (a : Addr) (zs : List Str), H a = none → zs.length ≤ xs.length → (∀ y, y ∈ zs ↔ y ∈ xs) → Q (.ref a) (upd H a (TxO P w a zs))
theorem cr_setTx (hc : X.calm = true) : CallR X (.type "set") (rSetTx X.K X.prog X.w) := by
  intro pins s σ H vs us Q I r h
  obtain ⟨l, xs, rfl, hl, hf, q⟩ := h
  rw [Vals.ref1 r]
  obtain ⟨its, rv, pl, _⟩ := I.list hl
  refine set_texts (P := X.prog) (w := X.w) xs (I.ok.hd hc) pl.isList (by simpa using rv.strs) (by unfold scanBound; omega) fun h' tk zs T lz mz kp => ?_
  exact ⟨.ref s.heap.objs.size, upd H s.heap.objs.size (TxO X.prog X.w s.heap.objs.size zs), I.laid (t' := tk) kp (Nat.le_refl _) (txO_new T), rfl, q _ zs (I.hok.fresh (Nat.le_refl _)) lz mz⟩
/-- sorted(a set of texts): zs its texts in some order -/
def rSortedTx (P : Program) (w : World) : List V → Hp → VK → Prop := fun vs H Q => ∃ (a : Addr) (l : List Str), vs = [V.ref a] ∧ H a = some (TxO P w a l) ∧ l.length < 64 ∧
  (l.Nodup → ∀ (ys : List Str) (p : Addr), ys.Perm l → sortedS ys = true → H p = none → Q (.ref p) (upd H p (.lst (ys.map V.str))))
theorem cr_sortedTx (hc : X.calm = true) : CallR X (.builtin "sorted") (rSortedTx X.prog X.w) := by
  intro pins s σ H vs us Q I r h
  obtain ⟨a, l, rfl, ha, h64, q⟩ := h
  have T : TxSet X.prog X.w s.heap a l := (I.hok a _ ha).1
  have nd : l.Nodup := by
    have ⟨_, _, _, n, _⟩ := T
    exact n
  rw [Vals.ref1 r]
  refine sorted_texts T (I.ok.hd hc) h64 fun s' p out c ys k g o hp hg hi pm st => ?_
  have hlen : (ys.map V.str).length ≤ sizeLine := by rw [List.length_map, pm.length_eq, sizeLine_eq]; omega
  have hn : H p = none := I.hok.fresh hp
  have J : Inv X pins σ (upd H p (.lst (ys.map V.str))) { s with heap := s'.heap, gens := s'.gens, drawn := s'.drawn, toks := s'.toks } :=
    I.call (ch := []) (Un.laid k hp hn) (I.hok.laid k hp ⟨hlen, out.toList, c, vals_of_strs hi, hg⟩) (by rw [g]; exact I.bare) (fun _ z => nomatch z)
  rw [show s' = { s with heap := s'.heap, gens := s'.gens, drawn := s'.drawn, toks := s'.toks } from by
    cases s'; cases s; cases o; rfl]
  exact ⟨.ref p, _, J, rfl, q nd ys p pm st hn⟩
end
end Pk
end
section
set_option maxHeartbeats 1000000
/-! set(xs), xs a list of fewer than 64 tuples with tuples in them; its length. -/
namespace Pk
open PySem PySem.Spec PyProof.Rows L2
/-- the key as it stands at an address -/
def NAt (h : Heap) (k : NestedKey) (b : Addr) : Prop := NestedIs h k (.ref b) ∧ k.depth ≤ 8
abbrev nh (w : World) (k : NestedKey) : Int := k.hash w
section
variable {P : Program} {w : World} {A : Around} {E : Value → Shared → Prop} {s : Shared}
def NoCls (P : Program) (w : World) (n : Nat) (s : Shared) (v : Value) : Prop := ∀ (A : Around) (E : Value → Shared → Prop) (Q : Bool → Shared → Prop), Q false s → wpAny (model P w) A (ofAClassStatement n v) Q E s
theorem NoCls.val {n : Nat} {v : Value} (h : ∀ a, v ≠ .ref a) : NoCls P w n s v := fun A E Q q => by
  cases v with
  | ref a => exact absurd rfl (h a)
  | _ => cases n <;> exact wpAny_pure q
theorem NoCls.tup {n : Nat} {a : Addr} {o : Obj} {vs : Array Value} {m : Nat} (ho : s.heap.get? a = some o) (hc : o.cls = .type "tuple") (hd : o.data = .seq vs m) (hq : ∀ v ∈ vs.toList, NoCls P w n s v) : NoCls P w (n + 1) s (.ref a) := fun A E Q q => by
  unfold ofAClassStatement
  have hT : s.TypeIs (.ref a) "tuple" := ⟨o, ho, hc⟩
  refine wpAny_bind (wpAny_typeOf hT ?_)
  simp only [show (("tuple" : String) == "tuple") = true by decide, if_true, Bool.not_true, Bool.false_eq_true, if_false]
  refine wpAny_bind (wpAny_pure ?_)
  simp only [Bool.not_true, Bool.false_eq_true, if_false]
  show wpAny _ _ (seqItems? (.ref a) >>= fun _ => _) _ _ s
  refine wpAny_bind (wpAny_seqItems ho hd ?_)
  dsimp only
  refine wpAny_bind ?_
  show wpAny _ _ (forIn vs _ fun _ _ => _) _ _ s
  rw [← Array.forIn_toList]
  refine wpAny_forIn_list _ (fun l r z => r.1 = none ∧ z = s ∧ ∀ v ∈ l, NoCls P w n s v) _ (fun v l r z ⟨e1, e2, al⟩ => ?_) (fun r z ⟨e1, e2, _⟩ => ?_) _ _ ⟨rfl, rfl, hq⟩
  · subst e2
    refine wpAny_bind (al v (List.mem_cons_self ..) _ _ _ ?_)
    simp only [Bool.false_eq_true, if_false]
    exact wpAny_pure ⟨rfl, rfl, fun u z => al u (List.mem_cons_of_mem _ z)⟩
  · obtain ⟨r1, r2⟩ := r
    simp only at e1
    subst e1; subst e2
    exact wpAny_pure q
def HashBy (P : Program) (w : World) (n : Nat) (s : Shared) (v : Value) : Prop := ∀ (A : Around) (E : Value → Shared → Prop) (Q : Bool → Shared → Prop), (∀ b, Q b s) → wpAny (model P w) A (hashByValue n v) Q E s
theorem HashBy.tup {n : Nat} {a : Addr} {o : Obj} {vs : Array Value} {m : Nat} (ho : s.heap.get? a = some o) (hc : o.cls = .type "tuple") (hd : o.data = .seq vs m) (hq : ∀ v ∈ vs.toList, HashBy P w n s v) : HashBy P w (n + 1) s (.ref a) := fun A E Q q => by
  unfold hashByValue
  have hT : s.TypeIs (.ref a) "tuple" := ⟨o, ho, hc⟩
  refine wpAny_bind (wpAny_specialOf hT F.slot_tuple_hash.lookup ?_)
  show wpAny _ _ (seqItems? (.ref a) >>= fun _ => _) _ _ s
  refine wpAny_bind (wpAny_seqItems ho hd (wpAny_bind ?_))
  show wpAny _ _ (forIn vs _ fun _ _ => _) _ _ s
  rw [← Array.forIn_toList]
  refine wpAny_forIn_list _ (fun l r z => r.1 = none ∧ z = s ∧ ∀ v ∈ l, HashBy P w n s v) _ (fun v l r z ⟨e1, e2, al⟩ => ?_) (fun r z ⟨e1, e2, _⟩ => ?_) _ _ ⟨rfl, rfl, hq⟩
  · subst e2
    refine wpAny_bind (al v (List.mem_cons_self ..) _ _ _ fun b => ?_)
    cases b with
    | true => exact wpAny_pure ⟨rfl, rfl, fun u z => al u (List.mem_cons_of_mem _ z)⟩
    | false => exact wpAny_pure (wpAny_pure (q false))
  · obtain ⟨r1, r2⟩ := r
    simp only at e1
    subst e1; subst e2
    exact wpAny_pure (q true)
mutual
theorem noCls_key : ∀ (k : NestedKey) (v : Value) (n : Nat) (s : Shared), NestedIs s.heap k v → k.depth ≤ n → NoCls P w n s v
  | .none, _, n, s, x, _ => by cases x; exact .val fun _ z => by cases z
  | .num i, _, n, s, x, _ => by cases x <;> exact .val fun _ z => by cases z
  | .text y, _, n, s, x, _ => by cases x; exact .val fun _ z => by cases z
  | .tup ks, _, n, s, x, hn => by
    cases x with
    | tup h1 h2 h3 h4 =>
      simp only [NestedKey.depth] at hn
      obtain ⟨m, rfl⟩ : ∃ m, n = m + 1 := ⟨n - 1, by omega⟩
      exact .tup h1 h2 h3 (noCls_keys ks _ m s h4 (by omega))
theorem noCls_keys : ∀ (ks : List NestedKey) (vs : List Value) (n : Nat) (s : Shared), NestedAll s.heap ks vs → NestedKey.depthAll ks ≤ n → ∀ v ∈ vs, NoCls P w n s v
  | [], _, n, s, x, _, v, hv => by cases x; cases hv
  | k :: ks, _, n, s, x, hn, v, hv => by
    cases x with
    | cons x1 x2 =>
      simp only [NestedKey.depthAll] at hn
      rcases List.mem_cons.mp hv with rfl | hv
      · exact noCls_key k _ n s x1 (by omega)
      · exact noCls_keys ks _ n s x2 (by omega) v hv
end
mutual
theorem hashBy_key : ∀ (k : NestedKey) (v : Value) (n : Nat) (s : Shared), NestedIs s.heap k v → k.depth ≤ n → HashBy P w n s v
  | .none, _, n, s, x, _ => by cases x; exact fun A E Q q => by cases n <;> exact wpAny_pure (q _)
  | .num i, _, n, s, x, _ => by cases x <;> exact fun A E Q q => by cases n <;> exact wpAny_pure (q _)
  | .text y, _, n, s, x, _ => by cases x; exact fun A E Q q => by cases n <;> exact wpAny_pure (q _)
  | .tup ks, _, n, s, x, hn => by
    cases x with
    | tup h1 h2 h3 h4 =>
      simp only [NestedKey.depth] at hn
      obtain ⟨m, rfl⟩ : ∃ m, n = m + 1 := ⟨n - 1, by omega⟩
      exact .tup h1 h2 h3 (hashBy_keys ks _ m s h4 (by omega))
theorem hashBy_keys : ∀ (ks : List NestedKey) (vs : List Value) (n : Nat) (s : Shared), NestedAll s.heap ks vs → NestedKey.depthAll ks ≤ n → ∀ v ∈ vs, HashBy P w n s v
  | [], _, n, s, x, _, v, hv => by cases x; cases hv
  | k :: ks, _, n, s, x, hn, v, hv => by
    cases x with
    | cons x1 x2 =>
      simp only [NestedKey.depthAll] at hn
      rcases List.mem_cons.mp hv with rfl | hv
      · exact hashBy_key k _ n s x1 (by omega)
      · exact hashBy_keys ks _ n s x2 (by omega) v hv
end
theorem unseen {k : NestedKey} {b : Addr} {Q : Bool → Shared → Prop} (hk : NAt s.heap k b) {ys : List Value} (hy : ∀ y ∈ ys, ∃ k' c, y = Value.ref c ∧ NAt s.heap k' c) (q : Q false s) : wpAny (model P w) A (searchCouldBeSeen (.ref b) ys) Q E s := by
  unfold searchCouldBeSeen
  refine wpAny_bind (wpAny_forIn_list _ (fun l r z => r.1 = none ∧ z = s ∧ ∀ y ∈ l, ∃ k' c, y = Value.ref c ∧ NAt s.heap k' c) _ (fun v l r z ⟨e1, e2, al⟩ => ?_) (fun r z ⟨e1, e2, _⟩ => ?_) _ _ ⟨rfl, rfl, hy⟩)
  · subst e2
    obtain ⟨k', c, rfl, hc⟩ := al v (List.mem_cons_self ..)
    have al' : ∀ y ∈ l, ∃ k' c, y = Value.ref c ∧ NAt z.heap k' c := fun u hu => al u (List.mem_cons_of_mem _ hu)
    dsimp only
    by_cases hv : (b == c || (carriedByValue (.ref b) && carriedByValue (.ref c))) = true
    · exact wp_if_pos hv (wpAny_pure ⟨rfl, rfl, al'⟩)
    · refine wp_if_neg hv (wpAny_bind (quiet_key k _ 8 z hk.1 hk.2 _ _ _ ?_))
      simp only [Bool.not_true, Bool.false_eq_true, if_false]
      refine wpAny_bind (quiet_key k' _ 8 z hc.1 hc.2 _ _ _ ?_)
      simp only [Bool.not_true, Bool.false_eq_true, if_false]
      refine wpAny_bind (noCls_key k _ 8 z hk.1 hk.2 _ _ _ ?_)
      simp only [Bool.false_eq_true, if_false]
      refine wpAny_bind (noCls_key k' _ 8 z hc.1 hc.2 _ _ _ ?_)
      simp only [Bool.false_eq_true, if_false]
      exact wpAny_pure ⟨rfl, rfl, al'⟩
  · obtain ⟨r1, r2⟩ := r
    simp only at e1
    subst e1; subst e2
    exact wpAny_pure q
end
end Pk
end
section
set_option maxHeartbeats 1000000
/-! The search for a key in a set's table, and a key put there. -/
namespace Pk
open PySem PySem.Spec PyProof.Rows L2
def nrows (w : World) (L : List (Addr × NestedKey)) : List (Int × Value) := L.map fun p => (nh w p.2, Value.ref p.1)
/-- the c-th step of a hash's way -/
abbrev stp (m : Nat) (h : Int) (c : Nat) : SetTable.Probe := nth m (runAt m (SetTable.bits h % (m + 1)) (SetTable.bits h)) c
/-- at a: a set of these tuples -/
structure NTab (w : World) (h : Heap) (a : Addr) (L : List (Addr × NestedKey)) (es : Array (Int × Value)) (ep : Nat) (t : SetTable) : Prop where
  ob : ∃ o, h.get? a = some o ∧ o.ExactSet ∧ o.data = .set es ep t
  ro : es.toList = nrows w L
  tb : TabOk t (L.map fun p => nh w p.2)
  nd : (L.map (·.2)).Nodup
  ky : ∀ p ∈ L, NAt h p.2 p.1
  ld : w.params.followText "set-order" = true ∨ t.led = true
  rm : L.length * 5 < t.mask * 3
  fw : L.length < 64
theorem nrows_len {w : World} {L : List (Addr × NestedKey)} {es : Array (Int × Value)} (h : es.toList = nrows w L) : es.size = L.length := by
  have q := congrArg List.length h
  unfold nrows at q
  rw [List.length_map] at q
  exact q
theorem nrows_at {w : World} {L : List (Addr × NestedKey)} {es : Array (Int × Value)} (h : es.toList = nrows w L) {i : Nat} {p : Addr × NestedKey} (hp : L[i]? = some p) : es[i]? = some (nh w p.2, Value.ref p.1) := by
  rw [← Array.getElem?_toList, h]; unfold nrows; rw [List.getElem?_map, hp]; rfl
theorem fits_of {t : SetTable} {n : Nat} (h1 : t.place.size = n) (h2 : t.dummies = #[]) (h3 : n ≤ t.mask) : t.fits n = true := by
  unfold SetTable.fits SetTable.fill
  rw [h2, Bool.and_eq_true, beq_iff_eq, decide_eq_true_eq]
  exact ⟨h1, by show t.place.size + 0 ≤ _; omega⟩
theorem NTab.fit {w : World} {h : Heap} {a : Addr} {L : List (Addr × NestedKey)} {es : Array (Int × Value)} {ep : Nat} {t : SetTable} (R : NTab w h a L es ep t) : t.fits es.size = true := by
  have h1 := R.tb.sz
  have h2 := nrows_len R.ro
  have h3 := R.rm
  rw [List.length_map] at h1
  exact fits_of (by rw [h1, h2]) R.tb.dm (by omega)
theorem not_gave {t : SetTable} (h : MaskOk t.mask) : ¬ t.gaveWay = true := by
  unfold SetTable.gaveWay; rw [mask_odd h]; decide
theorem nth_nodum {m : Nat} : ∀ (n : Nat) (p : SetTable.Probe), p.dummy = none → (nth m p n).dummy = none
  | 0, _, h => h
  | n + 1, p, h => nth_nodum n (adv m p) (by unfold adv; split <;> exact h)
section
variable {P : Program} {w : World} {A : Around} {E : Value → Shared → Prop} {s : Shared} {a : Addr} {L : List (Addr × NestedKey)} {es : Array (Int × Value)} {ep : Nat} {t : SetTable}
theorem look_go (R : NTab w s.heap a L es ep t) {x : Addr} {k : NestedKey} (hx : NAt s.heap k x) (hu : A.units + 8 < cLine) {N : Nat} (n1 : N < 10 * SetTable.turns t.mask) (n2 : way t.mask (nh w k) N ∉ t.place.toList)
    (n3 : ∀ c, c < N → way t.mask (nh w k) c ∈ t.place.toList) {Q : SetFound → Shared → Prop} (yes : k ∈ L.map (·.2) → Q (.there none) s) (no : k ∉ L.map (·.2) → Q (.free (way t.mask (nh w k) N) false) s) (f : Nat) :
    ∀ (c : Nat) (stand : Option SetTable.Probe), stand.getD (t.probeStart (nh w k)) = stp t.mask (nh w k) c → c ≤ N → N - c < f →
      (∀ (i : Nat) p, L[i]? = some p → p.2 = k → ∃ d, c ≤ d ∧ d < N ∧ t.place.toList[i]? = some (way t.mask (nh w k) d)) → wpAny (model P w) A (setSearchFrom a (.ref x) (nh w k) true f stand) Q E s := by
  induction f with
  | zero => exact fun c _ _ _ z => absurd z (Nat.not_lt_zero _)
  | succ f ih =>
    intro c stand hst hc hf ahead
    obtain ⟨o, ho, hex, hd⟩ := R.ob
    rw [setSearchFrom_succ]; refine wpAny_bind (wpAny_setState_of ho hd R.fit ?_); dsimp only
    refine wp_if_neg (not_gave R.tb.mok) ?_
    have on : ∀ q, nth t.mask (stp t.mask (nh w k) c) q = stp t.mask (nh w k) (c + q) := fun q => (nth_add t.mask c _ q).symm
    have onj : ∀ q, (nth t.mask (stp t.mask (nh w k) c) q).j = way t.mask (nh w k) (c + q) := fun q => congrArg SetTable.Probe.j (on q)
    have hNc : c + (N - c) = N := by omega
    have at_ : ∀ (i : Nat) p, L[i]? = some p → (fun i => (es[i]?.map (·.1)).getD 0) i = nh w p.2 := fun i p hp => by
      show (es[i]?.map (·.1)).getD 0 = _; rw [nrows_at R.ro hp]; rfl
    rcases go_spec t R.tb.ris R.tb.dm (fun i => (es[i]?.map (·.1)).getD 0) (nh w k) (10 * SetTable.turns t.mask) (N - c) (stp t.mask (nh w k) c) (nth_nodum c _ rfl) (by omega)
      (fun q hq => by rw [onj]; exact n3 _ (by omega)) (by rw [onj, hNc]; exact n2) with ⟨q, i, hq, hi, hh, hno, hpr⟩ | ⟨hno, hpr⟩
    · have pr : t.probe (fun i => (es[i]?.map (·.1)).getD 0) (nh w k) (stand.getD (t.probeStart (nh w k))) = some (.candidate (way t.mask (nh w k) (c + q)) i (stp t.mask (nh w k) (c + (q + 1)))) := by
        rw [hst, ← onj, ← on]; exact hpr
      rw [pr]; dsimp only
      rw [onj] at hi
      have il : i < L.length := by
        have h1 := (List.getElem?_eq_some_iff.mp hi).1
        have h2 := R.tb.sz
        rw [List.length_map] at h2; rw [Array.length_toList] at h1
        omega
      obtain ⟨p, hp⟩ : ∃ p, L[i]? = some p := ⟨_, List.getElem?_eq_getElem il⟩
      have pm : p ∈ L := List.mem_of_getElem? hp
      have sl : t.slot (way t.mask (nh w k) (c + q)) = .live i := slot_live R.tb.ris hi
      have further : wpAny (model P w) A (searchRest a (.ref x) (nh w k) true f es t (way t.mask (nh w k) (c + q)) i (stp t.mask (nh w k) (c + (q + 1)))) Q E s := by
        unfold searchRest; rw [nrows_at R.ro hp]; dsimp only
        refine wpAny_bind (wpAny_holding ((nestedKind P w).eqBool hu (R.ky p pm) hx ?_))
        refine wpAny_bind (wpAny_setState_of ho hd R.fit ?_); dsimp only
        by_cases e : p.2 = k
        · exact wp_if_pos (by simp [e]) (wpAny_pure (yes (List.mem_map.mpr ⟨p, pm, e⟩)))
        · refine wp_if_neg (by simp [e]) ?_
          rw [sameMem]
          simp only [if_true, sl, nrows_at R.ro hp]
          refine wpAny_bind (wpAny_isSame_ref_self (wpAny_bind (wpAny_pure ?_))); simp only [if_true]
          refine wp_if_neg (by simp [e]) (ih (c + (q + 1)) _ rfl (by omega) (by omega) fun i0 p0 h0 k0 => ?_)
          obtain ⟨d, d1, d2, d3⟩ := ahead i0 p0 h0 k0
          refine ⟨d, Nat.not_lt.mp fun lt => ?_, d2, d3⟩
          rcases Nat.lt_or_ge d (c + q) with z | z
          · exact hno (d - c) i0 (by omega) (by rw [onj, show c + (d - c) = d by omega]; exact d3) ((at_ i0 p0 h0).trans (congrArg (nh w) k0))
          · obtain rfl : d = c + q := by omega
            have s0 := slot_live R.tb.ris d3
            rw [sl] at s0
            injection s0 with s0
            rw [← s0, hp] at h0
            exact e ((congrArg Prod.snd (Option.some.inj h0)).trans k0)
      by_cases hl : t.led = true
      · exact wp_if_neg (by simp [hl]) further
      · refine wp_if_pos (by simp [hl]) (wpAny_bind (unseen hx (fun y hy => ?_) (wp_if_neg (by decide) further)))
        obtain ⟨e, he, rfl⟩ := List.mem_map.mp hy
        have e1 : e ∈ es ∧ e.1 = nh w k := by simpa using he
        have e2 : e ∈ es.toList := by simpa using e1.1
        rw [R.ro] at e2
        obtain ⟨p2, m2, rfl⟩ := List.mem_map.mp e2
        exact ⟨p2.2, p2.1, rfl, R.ky p2 m2⟩
    · have pr : t.probe (fun i => (es[i]?.map (·.1)).getD 0) (nh w k) (stand.getD (t.probeStart (nh w k))) = some (.empty (way t.mask (nh w k) N) none) := by
        rw [hst, show way t.mask (nh w k) N = (nth t.mask (stp t.mask (nh w k) c) (N - c)).j by rw [onj, hNc]]
        exact hpr
      rw [pr]; dsimp only
      refine wpAny_pure (no fun hm => ?_)
      obtain ⟨p0, m0, k0⟩ := List.mem_map.mp hm
      obtain ⟨i0, l0, rfl⟩ := List.getElem_of_mem m0
      have g0 : L[i0]? = some L[i0] := List.getElem?_eq_getElem l0
      obtain ⟨d, d1, d2, d3⟩ := ahead i0 _ g0 k0
      exact hno (d - c) i0 (by omega) (by rw [onj, show c + (d - c) = d by omega]; exact d3) ((at_ i0 _ g0).trans (congrArg (nh w) k0))
theorem look_at (R : NTab w s.heap a L es ep t) {x : Addr} {k : NestedKey} (hx : NAt s.heap k x) (hu : A.units + 8 < cLine) {Q : SetFound → Shared → Prop} (yes : k ∈ L.map (·.2) → Q (.there none) s)
    (no : ∀ N, k ∉ L.map (·.2) → way t.mask (nh w k) N ∉ t.place.toList → (∀ c, c < N → way t.mask (nh w k) c ∈ t.place.toList) → Q (.free (way t.mask (nh w k) N) false) s) : wpAny (model P w) A (setSearch a (.ref x) (nh w k) true) Q E s := by
  have rm := R.rm
  obtain ⟨N, n1, n2, n3⟩ := R.tb.first (by rw [List.length_map]; omega) (nh w k)
  have big : N < 100000 := by
    have q : 10 * SetTable.turns t.mask ≤ 1420 := by unfold SetTable.turns; rcases R.tb.mok with e | e | e <;> omega
    omega
  unfold setSearch
  refine look_go R hx hu n1 n2 n3 yes (fun z => no N z n2 n3) 100000 0 none rfl (Nat.zero_le _) (by omega) fun i p hp hk => ?_
  have hi : (L.map fun p => nh w p.2)[i]? = some (nh w k) := by rw [List.getElem?_map, hp, ← hk]; rfl
  have il : i < t.place.toList.length := by
    have h1 := (List.getElem?_eq_some_iff.mp hp).1
    have h2 := R.tb.sz
    rw [List.length_map] at h2; rw [Array.length_toList]
    omega
  obtain ⟨c, c1, c2⟩ := R.tb.before n2 hi (List.getElem?_eq_getElem il)
  exact ⟨c, Nat.zero_le _, c1, by rw [List.getElem?_eq_getElem il, c2]⟩
end
end Pk
end
section
set_option maxHeartbeats 1000000
/-! A table laid anew; a key added. -/
namespace Pk
open PySem PySem.Spec PyProof.Rows L2
theorem NAt.keep {h h' : Heap} {k : NestedKey} {b : Addr} (x : NAt h k b) (g : ∀ c o vs n, h.get? c = some o → o.data = .seq vs n → h'.get? c = some o) : NAt h' k b := ⟨NestedIs.at g _ _ x.1, x.2⟩
theorem NAt.other {h h' : Heap} {k : NestedKey} {a b : Addr} {o : Obj} {es : Array (Int × Value)} {ep : Nat} {t : SetTable} (x : NAt h k b) (ho : h.get? a = some o) (hd : o.data = .set es ep t) (sb : Heap.SameBut a h h') : NAt h' k b :=
  x.keep fun c u vs n hc hv => (sb.2 c fun (z : c = a) => by
    rw [z, ho] at hc; obtain rfl := Option.some.inj hc
    rw [hd] at hv; cases hv).trans hc
theorem nrows_ins {w : World} (L : List (Addr × NestedKey)) (p : Nat) (y : Addr × NestedKey) : nrows w (L.take p ++ y :: L.drop p) = (nrows w L).take p ++ (nh w y.2, Value.ref y.1) :: (nrows w L).drop p := by
  unfold nrows; rw [List.map_append, List.map_cons, List.map_take, List.map_drop]
theorem pick_rows {w : World} {L : List (Addr × NestedKey)} {es : Array (Int × Value)} (hr : es.toList = nrows w L) : ∀ l : List Nat, (∀ i ∈ l, i < L.length) →
    l.filterMap (fun i => es[i]?) = nrows w (l.filterMap fun i => L[i]?) ∧ ((l.filterMap fun i => L[i]?).map fun p => nh w p.2) = l.map fun i => (es.map (·.1)).getD i 0
  | [], _ => ⟨rfl, rfl⟩
  | i :: l, h => by
    have hi := h i (List.mem_cons_self ..)
    have g := List.getElem?_eq_getElem hi
    have e := nrows_at hr g
    obtain ⟨a1, a2⟩ := pick_rows hr l fun j z => h j (List.mem_cons_of_mem _ z)
    rw [List.filterMap_cons_some e, List.filterMap_cons_some g, a1, List.map_cons, List.map_cons, a2]
    refine ⟨rfl, ?_⟩
    have e5 : (es.map (·.1))[i]? = some (nh w (L[i]).2) := by rw [Array.getElem?_map, e]; rfl
    rw [show (es.map (·.1)).getD i 0 = nh w (L[i]).2 by simp [Array.getD_eq_getD_getElem?, e5]]
theorem range_all {α : Type} (L : List α) : (List.range L.length).filterMap (fun i => L[i]?) = L := by
  have key : ∀ n, n ≤ L.length → (List.range n).filterMap (fun i => L[i]?) = L.take n := fun n => by
    induction n with
    | zero => exact fun _ => rfl
    | succ n ih =>
      intro hn
      rw [List.range_succ, List.filterMap_append, ih (Nat.le_of_lt hn), List.take_succ, List.filterMap_cons_some (List.getElem?_eq_getElem hn), List.getElem?_eq_getElem hn]
      rfl
  rw [key _ (Nat.le_refl _), List.take_length]
section
variable {P : Program} {w : World} {A : Around} {E : Value → Shared → Prop} {s : Shared} {a : Addr} {L : List (Addr × NestedKey)} {es : Array (Int × Value)} {ep : Nat} {t : SetTable}
theorem nrelay {o : Obj} (ho : s.heap.get? a = some o) (hex : o.ExactSet) (hd : o.data = .set es ep t) (hr : es.toList = nrows w L) (hz : t.place.size = es.size) (hm : t.dummies = #[]) (hf : es.size ≤ t.mask) (nd : (L.map (·.2)).Nodup)
    (ky : ∀ p ∈ L, NAt s.heap p.2 p.1) (ld : w.params.followText "set-order" = true ∨ t.led = true) (fw : L.length < 64) {wanted M : Nat} (w1 : SetTable.sizeAbove wanted - 1 = M) (w2 : MaskOk M) (w3 : SetTable.sizeAbove wanted ≤ 128)
    (w4 : L.length * 5 < M * 3) {Q : Unit → Shared → Prop} (q : ∀ h' L' es' ep' t', Heap.SameBut a s.heap h' → NTab w h' a L' es' ep' t' → L'.Perm L → Q () { s with heap := h' }) : wpAny (model P w) A (setRelay a wanted) Q E s := by
  have ez := nrows_len hr
  obtain ⟨t', order, e, hp, T, em, el, -, -⟩ := relaid_ok t (hs := es.map (·.1)) (wanted := wanted) w1 w2 (by rw [Array.size_map, ez]; omega)
  rw [Array.size_map, ez] at hp
  obtain ⟨r1, r3⟩ := pick_rows hr order.toList fun i hi => List.mem_range.mp (hp.mem_iff.mp hi)
  have pm : (order.toList.filterMap fun i => L[i]?).Perm L := by
    have z := hp.filterMap fun i => L[i]?
    rwa [range_all] at z
  rw [← r3] at T
  have r2 : (order.filterMap (es[·]?)).toList = nrows w (order.toList.filterMap fun i => L[i]?) := by first | (rw [Array.toList_filterMap]; exact r1) | simpa using r1
  generalize (order.toList.filterMap fun i => L[i]?) = L2 at T pm r2
  have z2 : (order.filterMap (es[·]?)).size = es.size := by rw [nrows_len r2, pm.length_eq, ez]
  rw [setRelay_eq]; refine wpAny_bind (wpAny_setState_of ho hd (fits_of hz hm hf) ?_); dsimp only
  refine wp_if_neg (by rw [sizeLine_eq]; omega) ?_
  rw [e]; dsimp only
  refine wpAny_bind (wp_if_neg (by rw [z2]; simp) (wpAny_pure ?_)); dsimp only
  refine wpAny_storeSet_of ho hd ?_ (by rw [z2, ez, sizeLine_eq]; omega)
  have sb : Heap.SameBut a s.heap (s.heap.update a (Obj.putSet (order.filterMap (es[·]?)) t')) := Heap.SameBut.update ..
  exact q _ L2 _ (ep + 1) t' sb ⟨⟨_, store_at ho hd, ⟨hex.1, hex.2.1, hex.2.2⟩, rfl⟩, r2, T, (pm.map (·.2)).nodup_iff.mpr nd, fun p z => (ky p (pm.mem_iff.mp z)).other ho hd sb, by rw [el]; exact ld, by rw [pm.length_eq, em]; exact w4, by rw [pm.length_eq]; exact fw⟩ pm
theorem nadd (R : NTab w s.heap a L es ep t) {x : Addr} {k : NestedKey} (hx : NAt s.heap k x) (hu : A.units + 8 < cLine) (few : L.length + 1 < 64) {Q : Bool → Shared → Prop}
    (q : ∀ b h' L' es' ep' t', Heap.SameBut a s.heap h' → NTab w h' a L' es' ep' t' → (k ∈ L.map (·.2) → L' = L) → (k ∉ L.map (·.2) → L'.Perm ((x, k) :: L)) → Q b { s with heap := h' }) : wpAny (model P w) A (setAddHashed a (.ref x) (nh w k)) Q E s := by
  obtain ⟨o, ho, hex, hd⟩ := R.ob
  have ez := nrows_len R.ro
  have rm := R.rm
  unfold setAddHashed
  refine wpAny_holding ?_
  rw [show (100000 : Nat) = 99999 + 1 from rfl, setAddHashedIn_succ]; refine wpAny_bind (wpAny_setState_of ho hd R.fit ?_); dsimp only
  refine wp_if_neg (by simp [byScan, Value.scannable]) (wpAny_bind (look_at R hx hu (fun hm => ?_) fun N hm n2 n3 => ?_)) <;> dsimp only
  · exact wpAny_pure (q false s.heap L es ep t (Heap.SameBut.refl a s.heap) R (fun _ => rfl) fun z => absurd hm z)
  refine wpAny_bind (wpAny_setState_of ho hd R.fit ?_); dsimp only
  obtain ⟨q1, q2, q3, q4, q5, q6, q7, q8, q9⟩ := R.tb.put n2 n3
  generalize t.put (way t.mask (nh w k) N) = pt at q1 q3 q4 q5 q6 q7 q8 q9 ⊢
  obtain ⟨t1, p⟩ := pt
  dsimp only at q1 q3 q4 q5 q6 q7 q8 q9 ⊢
  subst q1
  have hin : (SetTable.insertAt es (SetTable.below t.place (way t.mask (nh w k) N)) (nh w k, Value.ref x)).toList = nrows w (L.take (SetTable.below t.place (way t.mask (nh w k) N)) ++ (x, k) :: L.drop (SetTable.below t.place (way t.mask (nh w k) N))) := by
    rw [SetTable.toList_insertAt, nrows_ins, R.ro]
  generalize SetTable.below t.place (way t.mask (nh w k) N) = p at q2 q3 hin ⊢
  have pm := put_perm L p (x, k)
  have ln : (L.take p ++ (x, k) :: L.drop p).length = L.length + 1 := pm.length_eq
  rw [show (L.map fun p => nh w p.2).take p ++ nh w k :: (L.map fun p => nh w p.2).drop p = (L.take p ++ (x, k) :: L.drop p).map (fun p => nh w p.2) by rw [List.map_append, List.map_cons, List.map_take, List.map_drop]] at q3
  have nd1 : ((L.take p ++ (x, k) :: L.drop p).map (·.2)).Nodup := (pm.map (·.2)).nodup_iff.mpr (by rw [List.map_cons]; exact List.nodup_cons.mpr ⟨hm, R.nd⟩)
  have es1z : (SetTable.insertAt es p (nh w k, Value.ref x)).size = L.length + 1 := by rw [nrows_len hin, ln]
  generalize SetTable.insertAt es p (nh w k, Value.ref x) = es1 at hin es1z ⊢
  generalize L.take p ++ (x, k) :: L.drop p = L1 at pm ln q3 nd1 hin
  -- whether the table is plain tells nothing here
  have tail : ∀ t2 : SetTable, t2.mask = t1.mask → t2.place = t1.place → t2.dummies = t1.dummies → t2.led = t1.led → wpAny (model P w) A (do
      storeSet a es1 t2
      if !false && t2.tooFull then setRelay a (SetTable.grown (es.size + 1))
      return true) Q E s := fun t2 m1 m2 m3 m4 => by
    have T2 : TabOk t2 (L1.map fun p => nh w p.2) := ⟨by rw [m2]; exact q3.ris, by rw [m3]; exact q3.dm, by rw [m2]; exact q3.sz, by rw [m1]; exact q3.mok, by rw [m1, m2]; exact q3.bd, by rw [m1, m2]; exact q3.reach⟩
    have full : t2.tooFull = decide ((L.length + 1) * 5 ≥ t.mask * 3) := by
      have z : t2.fill = L.length + 1 := by
        have z1 := T2.sz
        rw [List.length_map, ln] at z1
        unfold SetTable.fill; rw [T2.dm, z1]; rfl
      unfold SetTable.tooFull; rw [z, m1, q4]
    refine wpAny_bind (wpAny_storeSet_of ho hd ?_ (by rw [es1z, sizeLine_eq]; omega))
    have sb : Heap.SameBut a s.heap (s.heap.update a (Obj.putSet es1 t2)) := Heap.SameBut.update ..
    have ho1 := store_at (es' := es1) (t' := t2) ho hd
    generalize s.heap.update a (Obj.putSet es1 t2) = h1 at sb ho1 ⊢
    have ky1 : ∀ p ∈ L1, NAt h1 p.2 p.1 := fun p hp => by
      rcases List.mem_cons.mp (pm.mem_iff.mp hp) with e | hp
      · rw [e]; exact hx.other ho hd sb
      · exact (R.ky p hp).other ho hd sb
    have ld1 : w.params.followText "set-order" = true ∨ t2.led = true := by rw [m4, q5]; exact R.ld
    by_cases c : (L.length + 1) * 5 ≥ t.mask * 3
    · have mk : (t.mask = 7 ∧ L.length = 4) ∨ (t.mask = 31 ∧ L.length = 18) := by
        rcases R.tb.mok with e | e | e <;> rw [e] at c rm
        · exact .inl ⟨e, by omega⟩
        · exact .inr ⟨e, by omega⟩
        · omega
      have z1 := T2.sz
      rw [List.length_map, ln] at z1
      have go : ∀ M, SetTable.sizeAbove (SetTable.grown (L.length + 1)) - 1 = M → MaskOk M → SetTable.sizeAbove (SetTable.grown (L.length + 1)) ≤ 128 → (L.length + 1) * 5 < M * 3 →
          wpAny (model P w) A (setRelay a (SetTable.grown (L.length + 1))) (fun _ z => wpAny (model P w) A (pure true) Q E z) E { s with heap := h1 } := fun M g1 g2 g3 g4 =>
        nrelay (s := { s with heap := h1 }) ho1 ⟨hex.1, hex.2.1, hex.2.2⟩ rfl hin (by rw [z1, es1z]) T2.dm (by rw [es1z, m1, q4]; omega) nd1 ky1 ld1 (by rw [ln]; exact few) g1 g2 g3 (by rw [ln]; exact g4)
          fun h2 L2 es2 ep2 t2 sb2 R2 pm2 => wpAny_pure (q true h2 L2 es2 ep2 t2 (sb.trans sb2) R2 (fun z => absurd z hm) fun _ => pm2.trans pm)
      rw [full, decide_eq_true c, ez]
      refine wp_if_pos (by decide) (wpAny_bind ?_)
      rcases mk with ⟨_, e2⟩ | ⟨_, e2⟩
      · exact go 31 (by rw [e2, size_20]) (.inr (.inl rfl)) (by rw [e2, size_20]; decide) (by omega)
      · exact go 127 (by rw [e2, size_76]) (.inr (.inr rfl)) (by rw [e2, size_76]; decide) (by omega)
    · rw [full, decide_eq_false c]
      refine wp_if_neg (by decide) (wpAny_pure ?_)
      exact q true h1 L1 es1 (ep + 1) t2 sb ⟨⟨_, ho1, ⟨hex.1, hex.2.1, hex.2.2⟩, rfl⟩, hin, T2, nd1, ky1, ld1, by rw [ln, m1, q4]; omega, by rw [ln]; exact few⟩ (fun z => absurd z hm) fun _ => pm
  have both : ∀ b : Bool, wpAny (model P w) A (do
      storeSet a es1 (if b = true then t1 else { t1 with plain := false })
      if !false && (if b = true then t1 else { t1 with plain := false }).tooFull then setRelay a (SetTable.grown (es.size + 1))
      return true) Q E s := fun b => by
    cases b with
    | true => exact tail t1 rfl rfl rfl rfl
    | false => exact tail { t1 with plain := false } rfl rfl rfl rfl
  by_cases pl : t1.plain = true
  · exact wp_if_pos pl (wpAny_bind (hashBy_key k _ 8 s hx.1 hx.2 _ _ _ both))
  · exact wp_if_neg pl (wpAny_bind (wpAny_pure (both true)))
end
end Pk
end
section
set_option maxHeartbeats 1000000
/-! set(xs) of nested tuples, its length. -/
namespace Pk
open PySem PySem.Spec PyProof.Rows L2 PySem.Froz
/-- the set made of the first i of ks -/
structure GotN (ks : List (Addr × NestedKey)) (i : Nat) (L : List (Addr × NestedKey)) : Prop where
  sub : ∀ p ∈ L, p ∈ ks.take i
  all : ∀ p ∈ ks.take i, p.2 ∈ L.map (·.2)
  len : L.length ≤ i
theorem GotN.step {ks L L' : List (Addr × NestedKey)} {i : Nat} {x : Addr × NestedKey} (g : GotN ks i L) (h : ks[i]? = some x) (c1 : x.2 ∈ L.map (·.2) → L' = L) (c2 : x.2 ∉ L.map (·.2) → L'.Perm (x :: L)) : GotN ks (i + 1) L' := by
  have e := take_next h
  by_cases c : x.2 ∈ L.map (·.2)
  · rw [c1 c]
    refine ⟨fun p hp => by rw [e]; exact List.mem_append_left _ (g.sub p hp), fun p hp => ?_, Nat.le_succ_of_le g.len⟩
    rw [e] at hp
    rcases List.mem_append.mp hp with z | z
    · exact g.all p z
    · rw [List.mem_singleton.mp z]; exact c
  · have pm := c2 c
    refine ⟨fun p hp => ?_, fun p hp => ?_, by rw [pm.length_eq, List.length_cons]; exact Nat.succ_le_succ g.len⟩
    · rw [e]
      rcases List.mem_cons.mp (pm.mem_iff.mp hp) with z | z
      · rw [z]; exact List.mem_append_right _ (List.mem_singleton.mpr rfl)
      · exact List.mem_append_left _ (g.sub p z)
    · rw [(pm.map (·.2)).mem_iff, List.map_cons]; rw [e] at hp
      rcases List.mem_append.mp hp with z | z
      · exact List.mem_cons_of_mem _ (g.all p z)
      · rw [List.mem_singleton.mp z]; exact List.mem_cons_self ..
theorem GotN.count {ks L : List (Addr × NestedKey)} (g : GotN ks ks.length L) (nd : (L.map (·.2)).Nodup) : L.length ≤ ks.length ∧ (L.length = ks.length ↔ (ks.map (·.2)).Nodup) := by
  have sub : ∀ y ∈ L.map (·.2), y ∈ ks.map (·.2) := fun y hy => by
    obtain ⟨p, hp, rfl⟩ := List.mem_map.mp hy
    exact List.mem_map.mpr ⟨p, List.mem_of_mem_take (g.sub p hp), rfl⟩
  have sup : ∀ y ∈ ks.map (·.2), y ∈ L.map (·.2) := fun y hy => by
    obtain ⟨p, hp, rfl⟩ := List.mem_map.mp hy
    exact g.all p (by rw [List.take_length]; exact hp)
  refine ⟨g.len, fun e => ?_, fun h => ?_⟩
  · exact (perm_cover _ (ks.map (·.2)) nd sub (by rw [List.length_map, List.length_map, e]; exact Nat.le_refl _)).nodup_iff.mpr nd
  · have q := (perm_cover _ (L.map (·.2)) h sup (by rw [List.length_map, List.length_map]; exact g.len)).length_eq
    rw [List.length_map, List.length_map] at q
    exact q
section
variable {P : Program} {w : World} {A : Around} {E : Value → Shared → Prop} {s : Shared}
theorem NTab.keep {h h' : Heap} {a : Addr} {L : List (Addr × NestedKey)} {es : Array (Int × Value)} {ep : Nat} {t : SetTable} (R : NTab w h a L es ep t) (ka : ∀ o, h.get? a = some o → h'.get? a = some o) (kk : ∀ p ∈ L, NAt h' p.2 p.1) : NTab w h' a L es ep t := by
  obtain ⟨o, ho, q⟩ := R.ob
  exact ⟨⟨o, ka o ho, q⟩, R.ro, R.tb, R.nd, kk, R.ld, R.rm, R.fw⟩
theorem nfresh {h : Heap} {a : Addr} (ho : h.get? a = some (nset w)) : NTab w h a [] #[] 0 (.fresh 0 0 (!w.params.followText "set-order")) := by
  refine ⟨⟨_, ho, ⟨rfl, rfl, rfl⟩, rfl⟩, rfl, ⟨List.Pairwise.nil, rfl, rfl, .inl rfl, fun x z => (by cases z), fun i h j z => (by simp at z)⟩, List.nodup_nil, fun p z => (by cases z), ?_, by show 0 * 5 < 7 * 3; decide, by show 0 < 64; decide⟩
  show _ ∨ (!w.params.followText "set-order") = true
  cases w.params.followText "set-order" with
  | false => exact .inr rfl
  | true => exact .inl rfl
theorem nloop {R : Result → Shared → Prop} {I : Addr} {fp wr : List Addr} {G : Array GenState → Array GenState → Prop} {n : Nat} {Pv : Nat → Value → Prop} {St : Nat → Shared → Prop}
    (W : WalksS P w A.in1 I fp wr G n Pv St) (S : Addr) (hSf : S ∉ fp) (ks : List (Addr × NestedKey)) (hn : ks.length = n) (few : ks.length < 64) (hv : ∀ i v, Pv i v → ∃ p, ks[i]? = some p ∧ v = .ref p.1)
    (h0 : Heap) (hk : ∀ p ∈ ks, NAt h0 p.2 p.1) (hS0 : h0.get? S = none) (hw0 : ∀ b ∈ wr, h0.get? b = none) (hu : A.in1.units + 8 < cLine) :
    ∀ (m i : Nat) (s : Shared), n - i = m → i ≤ n → St i s → (∀ b o, h0.get? b = some o → s.heap.get? b = some o) → (∃ L es ep t, NTab w s.heap S L es ep t ∧ GotN ks i L) →
      (∀ s' L es ep t, Moved (S :: wr) G s s' → NTab w s'.heap S L es ep t → GotN ks n L → (∀ b o, h0.get? b = some o → s'.heap.get? b = some o) → R (.ok (.ret .none)) s') →
      codeAny (model P w) A (.builtin "set.update.loop" ⟨[.ref S, .ref I], []⟩) R s := by
  have sw : S ∉ wr := fun z => hSf (W.sub _ z)
  have up : ∀ b ∈ wr, b ∈ S :: wr := fun b z => List.mem_cons_of_mem _ z
  have kM : ∀ {s s' : Shared}, Moved wr G s s' → (∀ b o, h0.get? b = some o → s.heap.get? b = some o) → ∀ b o, h0.get? b = some o → s'.heap.get? b = some o := fun mv k b o e => mv.heap b o (fun z => by rw [hw0 b z] at e; cases e) (k b o e)
  have kN : ∀ {h : Heap}, (∀ b o, h0.get? b = some o → h.get? b = some o) → ∀ p ∈ ks, NAt h p.2 p.1 := fun k p hp => (hk p hp).keep fun c o _ _ e _ => k c o e
  intro m
  induction m with
  | zero =>
    rintro i s e1 e2 st k0 ⟨L, es, ep, t, T, g⟩ hR
    obtain rfl : i = n := by omega
    refine codeAny_builtin F.entry_set_update_loop ?_; rw [Around.under_plainId F.plain_set_update_loop _]
    show wpAny _ A.in1 (pyNext (.ref I) >>= fun _ => _) _ _ s
    refine wpAny_bind (W.done s _ _ st fun s' mv => ?_)
    show wpAny _ A.in1 (ret Value.none) _ _ _; refine wpAny_pure (hR s' L es ep t (mv.mono up) (T.keep (fun o z => mv.heap S o sw z) fun p hp => kN (kM mv k0) p (List.mem_of_mem_take (g.sub p hp))) g (kM mv k0))
  | succ m ih =>
    rintro i s e1 e2 st k0 ⟨L, es, ep, t, T, g⟩ hR
    have lt : i < n := by omega
    refine codeAny_builtin F.entry_set_update_loop ?_; rw [Around.under_plainId F.plain_set_update_loop _]
    show wpAny _ A.in1 (pyNext (.ref I) >>= fun _ => _) _ _ s
    refine wpAny_bind (W.item i s _ _ lt st fun v s' pv st' mv => ?_)
    obtain ⟨p, hp, rfl⟩ := hv i v pv
    have k1 := kM mv k0
    have T' : NTab w s'.heap S L es ep t := T.keep (fun o z => mv.heap S o sw z) fun p hp => kN k1 p (List.mem_of_mem_take (g.sub p hp))
    have hx := kN k1 p (List.mem_of_getElem? hp)
    show wpAny _ A.in1 (holding [Value.ref p.1] (setAdd S (.ref p.1)) >>= fun _ => _) _ _ s'
    refine wpAny_bind (wpAny_holding ?_); unfold setAdd
    refine wpAny_holding (wpAny_bind (pyHash_key p.2 _ _ _ _ hx.1 (by have := hx.2; omega) ?_))
    refine nadd (s := { s' with toks := s'.toks + p.2.draws }) T' hx hu (by have := g.len; omega) fun b h' L' es' ep' t' sb T2 c1 c2 => ?_
    have kp : ∀ b o, b ≠ S → s'.heap.get? b = some o → h'.get? b = some o := fun b o z e => by rw [sb.2 b z]; exact e
    refine wpAny_pure ⟨plainId_quiet F.plain_set_update_loop _, ih (i + 1) _ (by omega) lt (W.frame _ s' _ _ st' (Nat.le_add_right _ _) fun b z o e => kp b o (fun q => hSf (q ▸ z)) e) (fun b o e => kp b o (fun q => by rw [q, hS0] at e; cases e) (k1 b o e)) ⟨_, _, _, _, T2, g.step hp c1 c2⟩ fun s2 L2 es2 ep2 t2 mv2 T3 g3 k3 => ?_⟩
    refine hR s2 L2 es2 ep2 t2 (Moved.trans W.gtrans ((mv.mono up).then_heap (Nat.le_add_right _ _) fun b o hb e => kp b o (fun q => hb (by rw [q]; exact List.mem_cons_self ..)) e) mv2) T3 g3 k3
set_option maxRecDepth 100000 in
set_option maxHeartbeats 3200000 in
theorem set_nkeys {l : Addr} {items : Array Value} (ks : List (Addr × NestedKey)) {Q : Value → Shared → Prop} (hh : A.handled = none) (hl : s.heap.IsList l items) (hi : items.toList = ks.map fun p => Value.ref p.1) (hk : ∀ p ∈ ks, NAt s.heap p.2 p.1) (few : ks.length < 64)
    (hu : A.units + 16 < cLine)
    (h : ∀ (h' : Heap) (tk : Nat) L es ep t, NTab w h' s.heap.objs.size L es ep t → GotN ks ks.length L → (∀ b o, s.heap.get? b = some o → h'.get? b = some o) → Q (.ref s.heap.objs.size) { s with heap := h', toks := tk }) :
    wpAny (model P w) A (call (.type "set") [.ref l]) Q E s := by
  have hz : ks.length = items.size := by
    have q := congrArg List.length hi
    rw [List.length_map] at q
    exact q.symm
  obtain ⟨c, tl, em⟩ := F.called_set.mro; have e0 := F.called_set.made; have e1 := F.called_set.sub
  refine wpAny_call (codeAny_of_tree ?_); show wpAny _ _ (callAny (.type "set") _) _ _ _
  refine wpAny_pure ⟨Code.quiet_builtin _ (by decide +kernel), codeAny_builtin F.entry_type_call ?_⟩; rw [Around.under_plain (weight_type_call_type "set" [.ref l] []) rfl]
  have e2 := F.called_set.notType; have e3 := F.called_set.canCreate; have e4 := F.typeCall_set_1 (.ref l)
  repeat (any_goals (first | assumption | wp_step))
  refine codeAny_mono (code_set_led1 (.ref l) (E := E) (Q₁ := fun obj s₁ => obj = .ref s.heap.objs.size ∧ s₁ = { s with heap := s.heap.push (nset w) }) ⟨rfl, rfl⟩) fun r s₁ hr => ?_
  cases r with
  | error e => exact hr
  | ok fl =>
    cases fl with
    | ret obj =>
      obtain ⟨rfl, rfl⟩ := hr
      have hS : (s.heap.push (nset w)).get? s.heap.objs.size = some (nset w) := Heap.get?_push_size _ rfl
      have hT : Shared.TypeIs { s with heap := s.heap.push (nset w) } (.ref s.heap.objs.size) "set" := ⟨_, hS, rfl⟩
      have e5 := F.called_set.init.lookup; have e6 := F.called_set.init.bind (.ref s.heap.objs.size)
      repeat (any_goals (first | assumption | wp_step))
      refine codeAny_mono (codeAny_call_builtin (R := wants (fun r s₂ => r = .none ∧ ∃ h' tk L es ep t, s₂ = { s with heap := h', toks := tk } ∧ NTab w h' s.heap.objs.size L es ep t ∧ GotN ks ks.length L ∧
          (∀ b o, s.heap.get? b = some o → h'.get? b = some o)) E) F.called_set.init.plain F.entry_set_init (check_set_init_1 hT ?_)) fun r₂ s₂ hr₂ => ?_
      · obtain ⟨⟨oc, od, oda, osl⟩, hol, hc, nl, hd⟩ := hl
        simp only at hc hd; subst hc; subst hd
        have hol' : (s.heap.push (nset w)).get? l = some { cls := .type "list", dict := od, data := .seq items nl, slots := osl } := Heap.get?_push_of_some _ hol
        have f1 := F.sub_list_set; have f2 := F.sub_list_frozenset
        have f3 : (Value.type "list" == Value.type "dict") = false := by decide +kernel
        have hl1 : (s.heap.push (nset w)).IsList l items := ⟨_, hol', rfl, nl, rfl⟩
        unfold Builtin.«set.__init__» noKeywords Builtin.Frozenset.updateFrom; generalize hPI : pyIter = PI
        wp_walk
        subst hPI
        refine wpAny_pyIter_list hl1 (wpAny_bind (wpAny_runValue ?_))
        have lS : l < s.heap.objs.size := Heap.lt_size hol
        have h3 : A.in1.in1.in1.handled = none := by simp [hh]
        have z1 : (s.heap.push (nset w)).objs.size = s.heap.objs.size + 1 := Heap.size_push ..
        have ne : l ≠ (s.heap.push (nset w)).objs.size := by rw [z1]; exact Nat.ne_of_lt (Nat.lt_succ_of_lt lS)
        have nf : s.heap.objs.size ∉ [(s.heap.push (nset w)).objs.size, l] := by
          rw [z1, List.mem_cons, List.mem_singleton]
          exact fun z => z.elim (Nat.ne_of_lt (Nat.lt_succ_self _)) (Nat.ne_of_gt lS)
        have hv : ∀ (i : Nat) (v : Value), items[i]? = some v → ∃ p, ks[i]? = some p ∧ v = .ref p.1 := fun i v e => by
          have q : items.toList[i]? = some v := by rw [Array.getElem?_toList]; exact e
          rw [hi, List.getElem?_map] at q
          obtain ⟨p, hp, q2⟩ := Option.map_eq_some_iff.mp q
          exact ⟨p, hp, q2.symm⟩
        have non : ∀ b, s.heap.objs.size ≤ b → s.heap.get? b = none := fun b hb => by
          cases q : s.heap.get? b with
          | none => rfl
          | some o => exact absurd (Nat.lt_of_lt_of_le (Heap.lt_size q) hb) (Nat.lt_irrefl _)
        refine nloop ((Walks.list h3 _ l ne items).toS) s.heap.objs.size nf ks hz few hv s.heap hk (non _ (Nat.le_refl _)) (fun b hb => non b (by rw [List.mem_singleton.mp hb, z1]; exact Nat.le_succ _)) (by simp only [Around.in1]; omega) (items.size - 0) 0 _ (by omega) (Nat.zero_le _)
          ⟨⟨_, Heap.get?_push_size _ rfl, rfl, rfl⟩, (hl1.push _)⟩ (fun b o e => Heap.get?_push_of_some _ (Heap.get?_push_of_some _ e)) ⟨[], #[], 0, .fresh 0 0 (!w.params.followText "set-order"), ?_, ⟨fun p z => (by cases z), fun p z => (by simp at z), Nat.le_refl _⟩⟩ fun s' L es ep t mv T g k => ?_
        · exact nfresh (Heap.get?_push_of_some _ hS)
        · obtain ⟨h', g2, d', tk', os'⟩ := s'
          obtain rfl : g2 = s.gens := mv.gens
          obtain rfl : d' = s.drawn := mv.drawn
          obtain rfl : os' = s.os := mv.os
          show wpAny _ _ _ _ _ _; refine wpAny_pure ?_; show wpAny _ _ (ret Value.none) _ _ _
          rw [← hz] at g
          exact wpAny_pure ⟨rfl, h', tk', L, es, ep, t, rfl, T, g, k⟩
      · cases r₂ with
        | error e => exact hr₂
        | ok fl₂ =>
          cases fl₂ with
          | ret r =>
            obtain ⟨rfl, h', tk, L, es, ep, t, rfl, T, g, k⟩ := hr₂
            repeat (any_goals (first | assumption | wp_step))
            exact h _ _ _ _ _ _ T g k
          | _ => exact hr₂.elim
    | _ => exact hr.elim
end
end Pk
end
section
set_option maxHeartbeats 1000000
/-! len(set(xs)) of nested tuples, as the hand rules have it. -/
namespace Pk
open PySem PySem.Spec PyProof.Rows L2 PySem.Froz
/-- a set of n things, as the heap has it: n alone -/
def SetN (a : Addr) (n : Nat) : HO := .ext fun h => ∃ (o : Obj) (es : Array (Int × Value)) (ep : Nat) (t : SetTable), h.get? a = some o ∧ o.ExactSet ∧ o.data = .set es ep t ∧ t.fits es.size = true ∧ es.size = n ∧ n < 64
mutual
/-- a thing that is a key -/
inductive NV (K : PySem.W.Frag) (H : Hp) : NestedKey → V → Prop
  | int (i : Int) : NV K H (.num i) (.int i)
  | str (x : Str) : NV K H (.text x) (.str x)
  | tup {a : Addr} {ks : List NestedKey} {xs : List V} (h : SqT K H a xs) (hs : NVs K H ks xs) : NV K H (.tup ks) (.ref a)
inductive NVs (K : PySem.W.Frag) (H : Hp) : List NestedKey → List V → Prop
  | nil : NVs K H [] []
  | cons {k : NestedKey} {x : V} {ks : List NestedKey} {xs : List V} (h : NV K H k x) (hs : NVs K H ks xs) : NVs K H (k :: ks) (x :: xs)
end
section
variable {X : Cx} {pins : List (Addr × Obj)} {σ : L2.St} {H : Hp} {s : Shared}
mutual
theorem nv_is (I : Inv X pins σ H s) : ∀ {k : NestedKey} {x : V} {u : Value}, NV X.K H k x → RelV x u → NestedIs s.heap k u
  | _, _, _, .int i, r => by obtain ⟨t, rfl⟩ := r; exact .int i t
  | _, _, _, .str x, r => by obtain ⟨t, rfl⟩ := r; exact .text x t
  | _, _, _, .tup h hs, r => by
    cases r
    obtain ⟨its, rv, ⟨o, ho, hc, n, hd⟩, _⟩ := I.tuple h
    exact .tup ho hc hd (by simpa using nvs_is I hs rv)
theorem nvs_is (I : Inv X pins σ H s) : ∀ {ks : List NestedKey} {xs : List V} {us : List Value}, NVs X.K H ks xs → Vals xs us → NestedAll s.heap ks us
  | _, _, _, .nil, r => by cases r; exact .nil
  | _, _, _, .cons h hs, r => by
    cases r with
    | cons r rs => exact .cons (nv_is I h r) (nvs_is I hs rs)
end
def rSetN (K : PySem.W.Frag) : List V → Hp → VK → Prop := fun vs H Q => ∃ (l : Addr) (ks : List (Addr × NestedKey)), vs = [V.ref l] ∧ SqL K H l (ks.map fun p => V.ref p.1) ∧ (∀ p ∈ ks, NV K H p.2 (.ref p.1) ∧ p.2.depth ≤ 8) ∧ ks.length < 64 ∧
  ∀ (a : Addr) (n : Nat), H a = none → n ≤ ks.length → (n = ks.length ↔ (ks.map (·.2)).Nodup) → Q (.ref a) (upd H a (SetN a n))
theorem nrefs : ∀ {ks : List (Addr × NestedKey)} {us : List Value}, Vals (ks.map fun p => V.ref p.1) us → us = ks.map fun p => Value.ref p.1
  | [], _, .nil => rfl
  | p :: ks, _, .cons r t => by cases r; rw [nrefs t]; rfl
theorem setN_new {P : Program} {w : World} {H : Hp} {h : Heap} {a : Addr} {L : List (Addr × NestedKey)} {es : Array (Int × Value)} {ep : Nat} {t : SetTable} (R : NTab w h a L es ep t) : ObjOk P w H h a (SetN a L.length) := by
  obtain ⟨o, ho, q1, q2⟩ := R.ob
  refine ⟨⟨o, es, ep, t, ho, q1, q2, R.fit, nrows_len R.ro, R.fw⟩, ⟨o, ho⟩, fun h1 h2 p k => ?_⟩
  obtain ⟨o', es', ep', t', ho', r⟩ := p
  exact ⟨o', es', ep', t', k o' ho', r⟩
theorem cr_setN (hc : X.calm = true) (hu : X.A.units + 64 < cLine) : CallR X (.type "set") (rSetN X.K) := by
  intro pins s σ H xs us Q I r h
  obtain ⟨l, ks, rfl, hl, hk, few, q⟩ := h
  rw [Vals.ref1 r]
  obtain ⟨its, rv, pl, hz⟩ := I.list hl
  refine set_nkeys (P := X.prog) (w := X.w) ks (I.ok.hd hc) pl.isList (by simpa using nrefs rv) (fun p hp => ⟨nv_is I (hk p hp).1 rfl, (hk p hp).2⟩) few (by omega) fun h' tk L es ep t R g k => ?_
  obtain ⟨c1, c2⟩ := g.count R.nd
  exact ⟨.ref s.heap.objs.size, upd H s.heap.objs.size (SetN s.heap.objs.size L.length), I.laid (t' := tk) k (Nat.le_refl _) (setN_new R), rfl, q _ _ (I.hok.fresh (Nat.le_refl _)) c1 c2⟩
def rLenN : List V → Hp → VK → Prop := fun vs H Q => ∃ (a : Addr) (n : Nat), vs = [V.ref a] ∧ H a = some (SetN a n) ∧ Q (.int n) H
theorem cr_lenN : CallR X (.builtin "len") rLenN := by
  intro pins s σ H xs us Q I r h
  obtain ⟨a, n, rfl, ha, q⟩ := h
  rw [Vals.ref1 r]
  obtain ⟨o, es, ep, t, ho, hx, hd, hf, hn, lt⟩ : ∃ (o : Obj) (es : Array (Int × Value)) (ep : Nat) (t : SetTable), s.heap.get? a = some o ∧ o.ExactSet ∧ o.data = .set es ep t ∧ t.fits es.size = true ∧ es.size = n ∧ n < 64 := (I.hok a _ ha).1
  exact call_len_set ho hx hd hf (by rw [hn]; omega) ⟨.int n, H, I.tok _, ⟨_, by rw [hn]⟩, q⟩
end
end Pk
end
section
set_option maxHeartbeats 1000000
/-! Whether dials and rules make a house: as the law looks, as the program does. -/
namespace Pk
open PySem PySem.Spec PyProof.Rows L2 TL
/-! ### names that rise -/
def ltS (a b : Str) : Prop := a.cps.toList < b.cps.toList
instance (a b : Str) : Decidable (ltS a b) := inferInstanceAs (Decidable (a.cps.toList < b.cps.toList))
def strS : Option Str → List Str → Bool
  | _, [] => true
  | none, x :: r => strS (some x) r
  | some p, x :: r => decide (ltS p x) && strS (some x) r
theorem lts_trans {a b c : Str} (h1 : ltS a b) (h2 : ltS b c) : ltS a c := List.lt_trans h1 h2
theorem lts_irrefl (a : Str) : ¬ ltS a a := List.lt_irrefl _
theorem lts_asymm {a b : Str} (h1 : ltS a b) : ¬ ltS b a := fun h2 => lts_irrefl a (lts_trans h1 h2)
theorem leS_lt (a b : Str) : leS a b = !decide (ltS b a) := rfl
theorem lts_tri {a b : Str} (h1 : ¬ ltS b a) (h2 : a ≠ b) : ltS a b := by
  have q : leS b a = false := by
    exact lt_of_le_ne (a := a) h1 h2
  rw [leS_lt] at q
  simpa using q
theorem strS_some : ∀ {l : List Str} {p : Str}, strS (some p) l = true ↔ (∀ x ∈ l, ltS p x) ∧ l.Pairwise ltS
  | [], p => ⟨fun _ => ⟨fun x h => (by cases h), List.Pairwise.nil⟩, fun _ => rfl⟩
  | x :: r, p => by
    rw [strS, Bool.and_eq_true, decide_eq_true_eq, strS_some, List.pairwise_cons]
    constructor
    · rintro ⟨h1, h2, h3⟩
      refine ⟨fun y hy => ?_, h2, h3⟩
      rcases List.mem_cons.mp hy with rfl | hy
      · exact h1
      · exact lts_trans h1 (h2 y hy)
    · rintro ⟨h1, h2, h3⟩
      exact ⟨h1 x List.mem_cons_self, h2, h3⟩
theorem strS_none {l : List Str} : strS none l = true ↔ l.Pairwise ltS := by
  cases l with
  | nil => exact ⟨fun _ => List.Pairwise.nil, fun _ => rfl⟩
  | cons x r => rw [strS, strS_some, List.pairwise_cons]
theorem rising_pw : ∀ {l : List Str} {p : Str}, risingS p l = true → (p :: l).Pairwise fun a b => ¬ ltS b a
  | [], p, _ => List.pairwise_cons.mpr ⟨fun x h => (by cases h), List.Pairwise.nil⟩
  | x :: r, p, h => by
    rw [risingS, Bool.and_eq_true, ltCps_eq] at h
    have q := rising_pw h.2
    have h1 : ¬ ltS x p := by
      have := h.1
      simpa [ltS] using this
    refine List.pairwise_cons.mpr ⟨fun y hy => ?_, q⟩
    rcases List.mem_cons.mp hy with rfl | hy
    · exact h1
    · have h2 := (List.pairwise_cons.mp q).1 y hy
      intro z
      by_cases e : p = x
      · rw [e] at z; exact h2 z
      · exact h2 (lts_trans z (lts_tri h1 e))
theorem sorted_strict {l : List Str} (h : sortedS l = true) (nd : l.Nodup) : l.Pairwise ltS := by
  have q : l.Pairwise fun a b => ¬ ltS b a := by
    cases l with
    | nil => exact List.Pairwise.nil
    | cons x r => exact rising_pw h
  have r := q.and nd
  exact r.imp fun ⟨a, b⟩ => lts_tri a b
theorem strict_unique : ∀ {xs ys : List Str}, xs.Pairwise ltS → ys.Pairwise ltS → (∀ z, z ∈ xs ↔ z ∈ ys) → xs = ys
  | [], [], _, _, _ => rfl
  | [], y :: ys, _, _, h => absurd ((h y).mpr List.mem_cons_self) (by simp)
  | x :: xs, [], _, _, h => absurd ((h x).mp List.mem_cons_self) (by simp)
  | x :: xs, y :: ys, h1, h2, h => by
    obtain ⟨a1, a2⟩ := List.pairwise_cons.mp h1
    obtain ⟨b1, b2⟩ := List.pairwise_cons.mp h2
    have e : x = y := by
      rcases List.mem_cons.mp ((h x).mp List.mem_cons_self) with e | hx
      · exact e
      rcases List.mem_cons.mp ((h y).mpr List.mem_cons_self) with e | hy
      · exact e.symm
      exact absurd (a1 y hy) (lts_asymm (b1 x hx))
    subst e
    rw [strict_unique a2 b2 fun z => ?_]
    constructor
    · intro hz
      rcases List.mem_cons.mp ((h z).mp (List.mem_cons_of_mem _ hz)) with e | q
      · exact absurd (a1 z hz) (by rw [e]; exact lts_irrefl _)
      · exact q
    · intro hz
      rcases List.mem_cons.mp ((h z).mpr (List.mem_cons_of_mem _ hz)) with e | q
      · exact absurd (b1 z hz) (by rw [e]; exact lts_irrefl _)
      · exact q
/-- the law's comparison with the sorted set -/
theorem names_sorted {ns zs ys : List Str} (mz : ∀ y, y ∈ zs ↔ y ∈ ns) (pm : ys.Perm zs) (nd : zs.Nodup) (so : sortedS ys = true) : decide (ns = ys) = strS none ns := by
  have hy : ys.Pairwise ltS := sorted_strict so (pm.nodup_iff.mpr nd)
  rw [Bool.eq_iff_iff, decide_eq_true_eq, strS_none]
  refine ⟨fun e => by rw [e]; exact hy, fun h => strict_unique h hy fun z => ?_⟩
  rw [pm.mem_iff, mz z]
/-! ### dials -/
def dialOk (d : Dw) : Bool := (decide (-farS ≤ d.lo) && (decide (d.lo ≤ d.hi) && decide (d.hi ≤ farS))) && (decide (1 ≤ (if d.dn < d.up then d.dn else d.up)) && decide ((if d.dn > d.up then d.dn else d.up) ≤ 1000000))
theorem nameOf_dial (d : Dw) : nameOf (dialP d) = d.nm := rfl
theorem whole_dec (lo hi i : Int) : wholeD lo hi (.int i) = (decide (lo ≤ i) && decide (i ≤ hi)) := rfl
theorem dialOk_eq {d : Dw} (h : DwG d) : dialD (dialP d) = dialOk d := by
  have e : dialD (dialP d) = (nameD (.str d.nm) && (inS ways3 (.str d.way) && (wholeD (-farS) farS (.int d.lo) && (wholeD d.lo farS (.int d.hi) && (wholeD 1 1000000 (.int d.up) && wholeD 1 1000000 (.int d.dn)))))) := rfl
  have iw : inS ways3 (.str d.way) = true := List.any_eq_true.mpr ⟨d.way, h.2, by simp [strIs]⟩
  rw [e, h.1, iw, whole_dec, whole_dec, whole_dec, whole_dec, Bool.eq_iff_iff]
  unfold dialOk
  have fg : farS = 1000000000000000000 := rfl
  simp only [Bool.and_eq_true, decide_eq_true_eq, true_and]
  constructor
  · rintro ⟨⟨a, b⟩, ⟨c, d1⟩, ⟨e, f⟩, g, h⟩
    refine ⟨⟨a, c, d1⟩, ?_, ?_⟩ <;> split <;> omega
  · rintro ⟨⟨a, b, c⟩, e, f⟩
    split at e <;> split at f <;> (refine ⟨⟨a, ?_⟩, ⟨b, c⟩, ⟨?_, ?_⟩, ?_, ?_⟩ <;> omega)
theorem fDial_iff : ∀ {ds : List Dw} {k : Nat} {p : Option Str}, (∀ d ∈ ds, DwG d) → ((fDial k p (ds.map dialP)).isNone = (strS p (ds.map (·.nm)) && ds.all dialOk))
  | [], k, p, _ => by cases p <;> rfl
  | d :: ds, k, p, h => by
    have ih := fun k p => fDial_iff (ds := ds) (k := k) (p := p) fun e he => h e (List.mem_cons_of_mem _ he)
    rw [List.map_cons, List.map_cons, List.all_cons, fDial_cons, dialOk_eq (h d List.mem_cons_self)]
    cases c : dialOk d with
    | false =>
      rw [if_neg (by decide), Bool.false_and, Bool.and_false]
      rfl
    | true =>
      rw [if_pos rfl, Bool.true_and]
      cases p with
      | none => exact ih (k + 1) (some d.nm)
      | some p =>
        show (if leS d.nm p = true then some k else fDial (k + 1) (some d.nm) (ds.map dialP)).isNone = _
        rw [strS, leS_lt]
        cases q : decide (ltS p d.nm) with
        | true =>
          rw [if_neg (by decide), Bool.true_and]
          exact ih (k + 1) (some d.nm)
        | false =>
          rw [if_pos (by decide), Bool.false_and, Bool.false_and]
          rfl
/-! ### rules -/
def sayK (s : Say) : NestedKey := .tup [.text s.1, .text s.2.1, .num s.2.2]
def ruleK : Rw → NestedKey
  | .one s t => .tup [.text "one", sayK s, sayK t]
  | .two w a b c => .tup [.text w, .text a, .text b, .num c]
theorem ruleK_depth (r : Rw) : (ruleK r).depth ≤ 8 := by cases r <;> simp [ruleK, sayK, NestedKey.depth, NestedKey.depthAll]
theorem ruleK_inj {r r' : Rw} (h : ruleK r = ruleK r') : r = r' := by
  cases r with
  | one s t =>
    cases r' with
    | one s' t' =>
      obtain ⟨s1, s2, s3⟩ := s
      obtain ⟨t1, t2, t3⟩ := t
      obtain ⟨s1', s2', s3'⟩ := s'
      obtain ⟨t1', t2', t3'⟩ := t'
      simp only [ruleK, sayK, NestedKey.tup.injEq, List.cons.injEq, NestedKey.text.injEq, NestedKey.num.injEq, and_true, true_and] at h
      obtain ⟨⟨rfl, rfl, rfl⟩, rfl, rfl, rfl⟩ := h
      rfl
    | two w a b c => simp [ruleK, sayK] at h
  | two w a b c =>
    cases r' with
    | one s' t' => simp [ruleK, sayK] at h
    | two w' a' b' c' =>
      simp only [ruleK, NestedKey.tup.injEq, List.cons.injEq, NestedKey.text.injEq, NestedKey.num.injEq, and_true] at h
      obtain ⟨rfl, rfl, rfl, rfl⟩ := h
      rfl
theorem ruleP_eqv (r r' : Rw) : PyData.eqv (ruleP r) (ruleP r') = true ↔ ruleK r = ruleK r' := by
  cases r with
  | one s t =>
    cases r' with
    | one s' t' => simp [ruleP, ruleK, sayP, sayK, PyData.eqv, PyData.eqvAll]
    | two w a b c => simp [ruleP, ruleK, sayP, sayK, PyData.eqv, PyData.eqvAll]
  | two w a b c =>
    cases r' with
    | one s' t' => simp [ruleP, ruleK, sayP, sayK, PyData.eqv, PyData.eqvAll]
    | two w' a' b' c' => simp [ruleP, ruleK, sayP, sayK, PyData.eqv, PyData.eqvAll]
def nearI (i : Int) : Bool := !decide ((if i < 0 then -i else i) > 100000000000000000000)
def knownR : Rw → List Str
  | .one s t => [s.1, t.1]
  | .two _ a b _ => [a, b]
def farR : Rw → List Int
  | .one s t => [s.2.2, t.2.2]
  | .two _ _ _ c => [c]
def loopR : Rw → Bool
  | .one _ _ => false
  | .two _ a b _ => decide (a = b)
/-- as the law looks at a rule -/
def ruleOk (ns : List Str) (r : Rw) : Bool := ((knownR r).all fun z => inS ns (.str z)) && (((farR r).all nearI) && !loopR r)
theorem near_eq (i : Int) : wholeD (-greatS) greatS (.int i) = nearI i := by
  have gg : greatS = 100000000000000000000 := rfl
  rw [whole_dec, Bool.eq_iff_iff]
  unfold nearI
  rw [gg]
  simp only [Bool.and_eq_true, decide_eq_true_eq, Bool.not_eq_true', decide_eq_false_iff_not]
  constructor
  · rintro ⟨a, b⟩
    split <;> omega
  · intro h
    split at h <;> omega
theorem ruleOk_eq {ns : List Str} {r : Rw} (h : RwG r) : ruleD ns (ruleP r) = ruleOk ns r := by
  cases r with
  | one s t =>
    obtain ⟨s1, s2, s3⟩ := s
    obtain ⟨t1, t2, t3⟩ := t
    have e : ruleD ns (ruleP (.one (s1, s2, s3) (t1, t2, t3))) = (strIs "one" (.str "one") && ((inS ns (.str s1) && (inS sorts2 (.str s2) && wholeD (-greatS) greatS (.int s3))) && (inS ns (.str t1) && (inS sorts2 (.str t2) && wholeD (-greatS) greatS (.int t3))))) := rfl
    have o1 : strIs "one" (.str "one") = true := by decide +kernel
    have i1 : inS sorts2 (.str s2) = true := List.any_eq_true.mpr ⟨s2, h.1.2, by simp [strIs]⟩
    have i2 : inS sorts2 (.str t2) = true := List.any_eq_true.mpr ⟨t2, h.2.2, by simp [strIs]⟩
    rw [e, o1, i1, i2, near_eq, near_eq]
    show _ = ((inS ns (.str s1) && (inS ns (.str t1) && true)) && ((nearI s3 && (nearI t3 && true)) && !false))
    cases inS ns (.str s1) <;> cases inS ns (.str t1) <;> cases nearI s3 <;> cases nearI t3 <;> rfl
  | two w a b c =>
    have e : ruleD ns (ruleP (.two w a b c)) = (inS pairs3 (.str w) && (inS ns (.str a) && (inS ns (.str b) && (!(a == b) && wholeD (-greatS) greatS (.int c))))) := rfl
    have i1 : inS pairs3 (.str w) = true := List.any_eq_true.mpr ⟨w, h.1, by simp [strIs]⟩
    have ab : (a == b) = decide (a = b) := by
      by_cases q : a = b
      · rw [q, decide_eq_true rfl]; simp
      · rw [decide_eq_false q]; simpa using q
    rw [e, i1, near_eq, ab]
    show _ = ((inS ns (.str a) && (inS ns (.str b) && true)) && ((nearI c && true) && !decide (a = b)))
    cases inS ns (.str a) <;> cases inS ns (.str b) <;> cases nearI c <;> cases decide (a = b) <;> rfl
theorem fRule_iff {ns : List Str} : ∀ {rs : List Rw} {k : Nat} {past : List Rw}, (∀ r ∈ rs, RwG r) → ((fRule ns k (past.map ruleP) (rs.map ruleP)).isNone = true ↔ (∀ r ∈ rs, ruleOk ns r = true) ∧ (rs.map ruleK).Nodup ∧ ∀ r ∈ rs, ruleK r ∉ past.map ruleK)
  | [], k, past, _ => ⟨fun _ => ⟨fun r h => (by cases h), List.nodup_nil, fun r h => (by cases h)⟩, fun _ => rfl⟩
  | r :: rs, k, past, h => by
    have ih := fun k past => fRule_iff (ns := ns) (rs := rs) (k := k) (past := past) fun e he => h e (List.mem_cons_of_mem _ he)
    rw [List.map_cons, fRule_cons, ruleOk_eq (h r List.mem_cons_self), List.map_cons, List.nodup_cons]
    have an : ((past.map ruleP).any fun z => PyData.eqv z (ruleP r)) = true ↔ ruleK r ∈ past.map ruleK := by
      rw [List.any_eq_true]
      constructor
      · rintro ⟨z, hz, e⟩
        obtain ⟨y, hy, rfl⟩ := List.mem_map.mp hz
        exact List.mem_map.mpr ⟨y, hy, (ruleP_eqv y r).mp e⟩
      · intro hm
        obtain ⟨y, hy, e⟩ := List.mem_map.mp hm
        exact ⟨_, List.mem_map.mpr ⟨y, hy, rfl⟩, (ruleP_eqv y r).mpr e⟩
    by_cases c : ruleOk ns r = true
    case neg =>
      rw [if_neg c]
      exact ⟨fun z => (by cases z), fun z => absurd (z.1 r List.mem_cons_self) c⟩
    rw [if_pos c]
    by_cases q : ((past.map ruleP).any fun z => PyData.eqv z (ruleP r)) = true
    · rw [if_pos q]
      exact ⟨fun z => (by cases z), fun z => absurd (an.mp q) (z.2.2 r List.mem_cons_self)⟩
    rw [if_neg q]
    have i2 := ih (k + 1) (past ++ [r])
    rw [List.map_append, List.map_append] at i2
    rw [show past.map ruleP ++ [ruleP r] = past.map ruleP ++ [r].map ruleP from rfl, i2]
    have nq : ruleK r ∉ past.map ruleK := fun z => q (an.mpr z)
    constructor
    · rintro ⟨a, b, d⟩
      refine ⟨fun x hx => ?_, ⟨fun hm => ?_, b⟩, fun x hx => ?_⟩
      · rcases List.mem_cons.mp hx with rfl | hx
        · exact c
        · exact a x hx
      · obtain ⟨y, hy, e⟩ := List.mem_map.mp hm
        exact d y hy (List.mem_append_right _ (by rw [e]; simp))
      · rcases List.mem_cons.mp hx with rfl | hx
        · exact nq
        · exact fun z => d x hx (List.mem_append_left _ z)
    · rintro ⟨a, ⟨b1, b⟩, d⟩
      refine ⟨fun x hx => a x (List.mem_cons_of_mem _ hx), b, fun x hx z => ?_⟩
      rcases List.mem_append.mp z with z | z
      · exact d x (List.mem_cons_of_mem _ hx) z
      · have e : ruleK x = ruleK r := by simpa using z
        exact b1 (List.mem_map.mpr ⟨x, hx, e⟩)
/-- as the law looks -/
def houseL (ds : List Dw) (rs : List Rw) : Bool := (decide (1 ≤ ds.length) && decide (ds.length ≤ 12)) && (decide (rs.length ≤ 40) && (strS none (ds.map (·.nm)) && (decide ((rs.map ruleK).Nodup) && (ds.all dialOk && rs.all (ruleOk (ds.map (·.nm)))))))
theorem houseL_eq {ds : List Dw} {rs : List Rw} (h1 : ∀ d ∈ ds, DwG d) (h2 : ∀ r ∈ rs, RwG r) : houseL ds rs = goodH ds rs := by
  have f : formD (houseP ds rs) = ((decide (1 ≤ ds.length) && decide (ds.length ≤ 12)) && decide (rs.length ≤ 40)) := by
    show ((decide ((1 : Int) ≤ (((ds.map dialP).length : Nat) : Int)) && decide ((((ds.map dialP).length : Nat) : Int) ≤ 12)) && (decide ((0 : Int) ≤ (((rs.map ruleP).length : Nat) : Int)) && decide ((((rs.map ruleP).length : Nat) : Int) ≤ 40))) = _
    rw [List.length_map, List.length_map, Bool.eq_iff_iff]
    simp only [Bool.and_eq_true, decide_eq_true_eq]
    omega
  have d1 : dialsOf (houseP ds rs) = ds.map dialP := rfl
  have r1 : rulesOf (houseP ds rs) = rs.map ruleP := rfl
  have nm : (ds.map dialP).map nameOf = ds.map (·.nm) := by rw [List.map_map]; rfl
  unfold goodH faultD houseL
  rw [f, d1, r1, nm]
  cases (decide (1 ≤ ds.length) && decide (ds.length ≤ 12)) with
  | false => rw [Bool.false_and, Bool.false_and, if_neg (by decide)]; rfl
  | true =>
  cases decide (rs.length ≤ 40) with
  | false => rw [Bool.false_and, Bool.and_false, if_neg (by decide)]; rfl
  | true =>
  rw [Bool.and_self, if_pos rfl, Bool.true_and, Bool.true_and]
  have e1 := fDial_iff (k := 0) (p := none) h1
  have e2 := fRule_iff (ns := ds.map (·.nm)) (k := 0) (past := []) h2
  cases c1 : fDial 0 none (ds.map dialP) with
  | some k =>
    rw [c1] at e1
    show _ = false
    have e1 : false = (strS none (ds.map (·.nm)) && ds.all dialOk) := e1
    cases q1 : strS none (ds.map (·.nm)) with
    | false => rfl
    | true =>
      rw [q1, Bool.true_and] at e1
      rw [← e1]
      simp
  | none =>
    rw [c1] at e1
    have e1 : true = (strS none (ds.map (·.nm)) && ds.all dialOk) := e1
    have e1 := (Bool.and_eq_true _ _).mp e1.symm
    rw [e1.1, e1.2, Bool.true_and, Bool.true_and]
    show _ = isN (match fRule (ds.map (·.nm)) 0 [] (rs.map ruleP) with | some k => _ | none => _)
    rw [show fRule (ds.map (·.nm)) 0 [] (rs.map ruleP) = fRule (ds.map (·.nm)) 0 (([] : List Rw).map ruleP) (rs.map ruleP) from rfl]
    cases c2 : fRule (ds.map (·.nm)) 0 (([] : List Rw).map ruleP) (rs.map ruleP) with
    | none =>
      rw [c2] at e2
      obtain ⟨a, b, _⟩ := e2.mp rfl
      rw [decide_eq_true b, Bool.true_and, List.all_eq_true.mpr a]
      rfl
    | some k =>
      rw [c2] at e2
      show _ = false
      by_cases b : (rs.map ruleK).Nodup
      · rw [decide_eq_true b, Bool.true_and]
        cases q : rs.all (ruleOk (ds.map (·.nm))) with
        | false => rfl
        | true =>
          have z := e2.mpr ⟨List.all_eq_true.mp q, b, fun r _ h => by cases h⟩
          cases z
      · rw [decide_eq_false b]
        rfl
end Pk
end
section
set_option maxHeartbeats 1000000
/-! a op1 b op2 c op3 d, as a test. -/
namespace Pk
open PySem PySem.Spec PyProof.Rows L2
section
variable {X : Cx} {a b c d : Expr} {ta tb tc td : TE} {pos : Pos}
def tChain3 (r r' r'' : R2) (ta tb tc td : TE) : TE := fun σ H Q => ta σ H fun x H1 => tb σ H1 fun y H2 => r x y H2 fun z H3 => ∃ k, z = .bl k ∧
  (if k = true then tc σ H3 fun v H4 => r' y v H4 fun z' H5 => ∃ k', z' = .bl k' ∧ (if k' = true then td σ H5 fun u H6 => r'' v u H6 Q else Q (.bl false) H5) else Q (.bl false) H3)
theorem pt_chain3 {op op' op'' : CmpOp} {r r' r'' : R2} (ho : OpR X (compareOp op) r) (ho' : OpR X (compareOp op') r') (ho'' : OpR X (compareOp op'') r'') (ha : PE X a ta) (hb : PE X b tb) (hc : PE X c tc) (hd : PE X d td)
    (hm : lastMarks [op, op', op''] [b, c, d] = false := by with_unfolding_all rfl) : PT X (.Compare a [op, op', op''] [b, c, d] pos) (tTest (tChain3 r r' r'' ta tb tc td)) := by
  refine ⟨fun pins s σ H Q I h => ?_⟩
  refine isTrue_chain (thn (ha.run pins s σ H _ I h) fun v s1 ⟨x, H1, I1, r1, q1⟩ => test_link (thn (hb.run pins s1 σ H1 _ I1 q1) fun u s2 ⟨y, H2, I2, r2, q2⟩ =>
    thn (ho pins s2 σ H2 x y v u _ I2 r1 r2 q2) fun d s3 ⟨z, H3, I3, r3, k, e, q3⟩ => ?_)) hm
  subst e; cases r3
  refine wpAny_truthy_bool ?_
  cases k with
  | false =>
    obtain ⟨k', e', q'⟩ := q3
    cases e'; exact ite_ff ⟨H3, I3, q'⟩
  | true =>
    refine ite_tt (test_link (thn (hc.run pins s3 σ H3 _ I3 q3) fun w' s4 ⟨z', H4, I4, r4, q4⟩ => thn (ho' pins s4 σ H4 y z' u w' _ I4 r2 r4 q4) fun d' s5 ⟨z2, H5, I5, r5, k2, e2, q5⟩ => ?_))
    subst e2; cases r5
    refine wpAny_truthy_bool ?_
    cases k2 with
    | false =>
      obtain ⟨k', e', q'⟩ := q5
      cases e'; exact ite_ff ⟨H5, I5, q'⟩
    | true =>
      refine ite_tt (test_last (thn (hd.run pins s5 σ H5 _ I5 q5) fun w6 s6 ⟨z6, H6, I6, r6, q6⟩ => thn (ho'' pins s6 σ H6 z' z6 w' w6 _ I6 r4 r6 q6) fun d7 s7 ⟨z7, H7, I7, r7, k7, e7, q7⟩ => ?_))
      subst e7; cases r7
      exact wpAny_truthy_bool ⟨H7, I7, q7⟩
end
end Pk
end
section
set_option maxHeartbeats 1000000
/-! The law's own: is_house. -/
namespace Pk
open PySem PySem.Spec PyProof.Rows L2 TL
abbrev sLHouse : Stmt := topH 57
theorem pr_get {α β : Type} {R : α → β → Prop} : ∀ {as : List α} {bs : List β}, Paired R as bs → ∀ {i : Nat} {a : α}, as[i]? = some a → ∃ b, bs[i]? = some b ∧ R a b
  | _, _, .nil, i, a, h => by simp at h
  | _, _, .cons r t, 0, a, h => by
    cases h
    exact ⟨_, rfl, r⟩
  | _, _, .cons r t, i + 1, a, h => pr_get t h
theorem refs_get {as : List Addr} {i : Nat} {y : V} (h : (as.map V.ref)[i]? = some y) : ∃ a, y = .ref a ∧ as[i]? = some a := by
  rw [List.getElem?_map] at h
  obtain ⟨x, hx, e⟩ := Option.map_eq_some_iff.mp h
  exact ⟨x, e.symm, hx⟩
/-- rules as the set has them -/
def keysOf (bs : List Addr) (rs : List Rw) : List (Addr × NestedKey) := bs.zip (rs.map ruleK)
theorem keys_refs {bs : List Addr} {rs : List Rw} (h : bs.length = rs.length) : (keysOf bs rs).map (fun p => V.ref p.1) = bs.map V.ref := by
  unfold keysOf
  rw [show (fun p : Addr × NestedKey => V.ref p.1) = V.ref ∘ Prod.fst from rfl, ← List.map_map, List.map_fst_zip (by rw [List.length_map]; omega)]
theorem keys_keys {bs : List Addr} {rs : List Rw} (h : bs.length = rs.length) : (keysOf bs rs).map (·.2) = rs.map ruleK := by
  unfold keysOf
  rw [List.map_snd_zip (by rw [List.length_map]; omega)]
theorem RwAt.nv {K : PySem.W.Frag} {H : Hp} {a : Addr} {r : Rw} (h : RwAt H a r) : NV K H (ruleK r) (.ref a) := by
  cases r with
  | one s t =>
    obtain ⟨p, q, h1, h2, h3⟩ := h
    exact .tup (SqT.of h1) (.cons (.str _) (.cons (.tup (SqT.of h2) (.cons (.str _) (.cons (.str _) (.cons (.int _) .nil)))) (.cons (.tup (SqT.of h3) (.cons (.str _) (.cons (.str _) (.cons (.int _) .nil)))) .nil)))
  | two w x y c => exact .tup (SqT.of h) (.cons (.str _) (.cons (.str _) (.cons (.str _) (.cons (.int _) .nil))))
theorem keys_nv {K : PySem.W.Frag} {H : Hp} : ∀ {bs : List Addr} {rs : List Rw}, Paired (RwAt H) bs rs → ∀ p ∈ keysOf bs rs, NV K H p.2 (.ref p.1) ∧ p.2.depth ≤ 8
  | _, _, .nil, p, h => by simp [keysOf] at h
  | _, _, .cons (a := b) (b := r) h t, p, hp => by
    have hp : p ∈ (b, ruleK r) :: keysOf _ _ := hp
    rcases List.mem_cons.mp hp with rfl | hp
    · exact ⟨h.nv, ruleK_depth r⟩
    · exact keys_nv t p hp
theorem eqv_strs : ∀ xs ys : List Str, PyData.eqvAll (xs.map PyData.str) (ys.map PyData.str) = decide (xs = ys)
  | [], [] => rfl
  | [], _ :: _ => rfl
  | _ :: _, [] => rfl
  | x :: xs, y :: ys => by
    rw [List.map_cons, List.map_cons, PyData.eqvAll, eqv_strs xs ys, PyData.eqv, Bool.eq_iff_iff, Bool.and_eq_true, decide_eq_true_eq, decide_eq_true_eq, List.cons.injEq, beq_iff_eq]
theorem trStrs (H : Hp) : ∀ xs : List Str, TrAll H (xs.map V.str) (xs.map PyData.str)
  | [] => .nil
  | x :: xs => .cons (.str x) (trStrs H xs)
theorem layStrs : ∀ {xs : List Str}, (∀ x ∈ xs, nmOk x) → PyData.canLayAll0 (xs.map PyData.str) = true ∧ PyData.depthAll (xs.map PyData.str) ≤ 1
  | [], _ => lay_nil
  | x :: xs, h => lay_cons (lay_str (h x List.mem_cons_self)) (layStrs fun y hy => h y (List.mem_cons_of_mem _ hy))
abbrev rNiS (K : PySem.W.Frag) : R2 := fun x y H Q => ∃ (d : PyData) (a : Addr) (zs : List Str), Tr H x d ∧ y = .ref a ∧ (SqL K H a (zs.map V.str) ∨ SqT K H a (zs.map V.str)) ∧ Q (.bl (!zs.any fun z => strIs z d)) H
def spLHouse : Sp := fun vs H Q _ => ∃ (l m : Addr) (as bs : List Addr) (ds : List Dw) (rs : List Rw), vs = [.ref l, .ref m] ∧ H l = some (.lst (as.map V.ref)) ∧ H m = some (.lst (bs.map V.ref)) ∧ Paired (DwAt H) as ds ∧ Paired (RwAt H) bs rs ∧
  (∀ d ∈ ds, DwG d) ∧ (∀ r ∈ rs, RwG r) ∧ as.length + 4 ≤ sizeLine ∧ ∀ H', Same H H' → Q (.bl (houseL ds rs)) H'
/-- a comprehension that keeps some -/
def keepV {α : Type} (f : α → V) (p : α → Bool) (l : List α) : List V := (l.filter p).map f
theorem keepV_snoc {α : Type} {f : α → V} {p : α → Bool} {l : List α} {i : Nat} {c : α} (h : l[i]? = some c) : keepV f p (l.take (i + 1)) = if p c = true then keepV f p (l.take i) ++ [f c] else keepV f p (l.take i) := by
  unfold keepV
  rw [take_more h, List.filter_append]
  by_cases q : p c = true
  · rw [if_pos q, List.filter_cons_of_pos q, List.map_append]
    rfl
  · rw [if_neg q, List.filter_cons_of_neg q]
    simp
theorem keepV_len {α : Type} (f : α → V) (p : α → Bool) (l : List α) : (keepV f p l).length ≤ l.length := by
  unfold keepV
  rw [List.length_map]
  exact List.length_filter_le _ _
theorem keepV_nil {α : Type} {f : α → V} {p : α → Bool} : ∀ {l : List α}, (keepV f p l).isEmpty = l.all fun c => !p c
  | [] => rfl
  | c :: l => by
    have ih := keepV_nil (f := f) (p := p) (l := l)
    rw [List.all_cons, ← ih]
    unfold keepV
    by_cases q : p c = true
    · rw [List.filter_cons_of_pos q, q]
      rfl
    · rw [List.filter_cons_of_neg q, show p c = false by simpa using q]
      rfl
def tRlEnd (l m D : Addr) (ns : List Str) : TS := fun En σ H => ∃ (b N1 N2 : Addr) (r : Rw) (v3 v4 v5 v6 v7 v8 : Option V), σ = [some (.ref l), some (.ref m), some (.ref D), v3, v4, v5, v6, v7, v8, some (.ref b), some (.ref N1), some (.ref N2), none, none, none] ∧ RwAt H b r ∧ RwG r ∧
  H N1 = some (.lst ((knownR r).map V.str)) ∧ H N2 = some (.lst ((farR r).map V.int)) ∧ H D = some (.lst (ns.map V.str)) ∧ (ruleOk ns r = false → ∀ H', Same H H' → En.rt (.bl false) H') ∧ (ruleOk ns r = true → ∀ H', Same H H' → En.nx σ H')
section
variable {P : Program} {w : World} {K : PySem.W.Frag} {mg : Str → Option Value} {base : Heap}
abbrev nLHouse : List Str := ["_law_dials_here", "_law_rules", "_law_names_here", "_law_name", "_law_low", "_law_high", "_law_way", "_law_up", "_law_down", "_law_rule_here", "_law_known", "_law_far", "_law_dial", "_law_part", "_law_one"]
theorem scLHouse : FnScope nLHouse ["_law_dials_here", "_law_rules"] (defScope sLHouse) := ⟨rfl, rfl, rfl, by decide +kernel, rfl, by decide +kernel, by decide +kernel⟩
theorem ok_lhouse {f : Addr} {fd : FuncData} (F : Fun K "_law_is_house" "_law_is_house" sLHouse f fd) (B : BltH mg) (mSo : mg "sorted" = none) (mSe : mg "set" = none) (mMi : mg "min" = none) (mMa : mg "max" = none) (mA : mg "abs" = none) :
    FnOk P w K mg base CX0 1 f fd ["_law_dials_here", "_law_rules"] spLHouse := by
  refine F.ok scLHouse (fun vs H Q E h => ?_) (fun cdv A outer s H vs Q E hr h => ?_)
  · obtain ⟨l, m, as, bs, ds, rs, rfl, _⟩ := h
    rfl
  obtain ⟨l, m, as, bs, ds, rs, rfl, hl, hm, pd, pr, gd, gr, al, k⟩ := h
  have hu := hu_of hr
  have hu65 : (A.deeper (PyProof.Rows.envOfC "_law_is_house" (defScope sLHouse) s.heap.objs.size f cdv)).units + 65 < cLine := by
    have := hr.un
    omega
  have hu64 : (A.deeper (PyProof.Rows.envOfC "_law_is_house" (defScope sLHouse) s.heap.objs.size f cdv)).units + 64 < cLine := by omega
  have hu0 : (A.deeper (PyProof.Rows.envOfC "_law_is_house" (defScope sLHouse) s.heap.objs.size f cdv)).units < cLine := by omega
  refine ⟨_, pss_cons (ps_set (i := 2) scLHouse.nd rfl (.inr rfl) (pe_lc (own := [("_law_dial", 12)]) (g := gName 12) (by rfl) scLHouse.nd (pi_list (pv 0)) (blkOk_by (N := nLHouse) (sc := defScope sLHouse) (by decide +kernel)) (fun _ _ _ _ _ => pg_name (i := 12) scLHouse.nd rfl (Or.inl rfl)) (fun _ _ _ _ _ => pts_nil) (fun _ _ _ _ _ => pe_ix (r := rIxT K) ix_tup (pv 12) pe_int (fun _ _ => rfl)))) <|
    pss_cons (ps_if (PW.pt (pw_or (pt_not (pt_chain op_le op_le pe_int (pe_callB call_len_seq (by rfl) B.len PySem.boot_len (pa_cons (pv 0) pa_nil)) pe_int)) (pw_or (pt_cmpR op_gt (pe_callB call_len_seq (by rfl) B.len PySem.boot_len (pa_cons (pv 1) pa_nil)) pe_int (nomark _)) (pw_or (pt_cmpR (op_neD hu64) (pv 2) (pe_callB (cr_sortedTx rfl) (by rfl) mSo (by decide +kernel) (pa_cons (pe_callTy (cr_setTx rfl) (by rfl) mSe (by decide +kernel) (pa_cons (pv 2) pa_nil)) pa_nil)) (nomark _)) (pw_or1 (pt_cmpR op_ne (pe_callB cr_lenN (by rfl) B.len PySem.boot_len (pa_cons (pe_callTy (cr_setN rfl hu64) (by rfl) mSe (by decide +kernel) (pa_cons (pv 1) pa_nil)) pa_nil)) (pe_callB call_len_seq (by rfl) B.len PySem.boot_len (pa_cons (pv 1) pa_nil)) (nomark _))))))) (pss_one (ps_ret pe_bl)) pss_nil) <|
    pss_cons (ps_for PassesOwn.never rfl (pi_list (pv 0)) (pg_tup rfl (pgs_cons (pg_name (i := 3) scLHouse.nd rfl (.inl rfl)) (pgs_cons (pg_name (i := 4) scLHouse.nd rfl (.inl rfl)) (pgs_cons (pg_name (i := 5) scLHouse.nd rfl (.inl rfl)) (pgs_cons (pg_name (i := 6) scLHouse.nd rfl (.inl rfl)) (pgs_cons (pg_name (i := 7) scLHouse.nd rfl (.inl rfl)) (pgs_cons (pg_name (i := 8) scLHouse.nd rfl (.inl rfl)) pgs_nil)))))))
      (pss_one (ps_if (PW.pt (pw_or (pt_not (pt_chain3 op_le op_le op_le (pe_op op_sub pe_int (pe_op op_pow pe_int pe_int)) (pv 4) (pv 5) (pe_op op_pow pe_int pe_int))) (pw_or (pt_not (pt_cmpR op_le pe_int (pe_callB (call_min2 rfl) (by rfl) mMi (by decide +kernel) (pa_cons (pv 7) (pa_cons (pv 8) pa_nil))) (nomark _))) (pw_or1 (pt_cmpR op_gt (pe_callB (call_max2 rfl) (by rfl) mMa (by decide +kernel) (pa_cons (pv 7) (pa_cons (pv 8) pa_nil))) (pe_op op_pow pe_int pe_int) (nomark _)))))) (pss_one (ps_ret pe_bl)) pss_nil))) <|
    pss_cons (ps_for PassesOwn.never rfl (pi_list (pv 1)) (pg_name (i := 9) scLHouse.nd rfl (.inl rfl))
      (pss_cons (ps_set (i := 10) scLHouse.nd rfl (.inl rfl) (pe_ifExp (pt_cmpR op_eq (pe_ix ix_tup (pv 9) pe_int (fun _ _ => rfl)) pe_str (nomark _)) (pe_lc (own := [("_law_part", 13)]) (g := gName 13) (by rfl) scLHouse.nd (pi_tup (pe_slice sl_tupA (pv 9) (po_some pe_int) po_none)) (blkOk_by (N := nLHouse) (sc := defScope sLHouse) (by decide +kernel)) (fun _ _ _ _ _ => pg_name (i := 13) scLHouse.nd rfl (Or.inl rfl)) (fun _ _ _ _ _ => pts_nil) (fun _ _ _ _ _ => pe_ix (r := rIxT K) ix_tup (pv 13) pe_int (fun _ _ => rfl))) (pe_callTy call_list_of (by rfl) B.list (by decide +kernel) (pa_cons (pe_slice sl_tupA (pv 9) (po_some pe_int) (po_some pe_int)) pa_nil)))) <|
       pss_cons (ps_set (i := 11) scLHouse.nd rfl (.inl rfl) (pe_ifExp (pt_cmpR op_eq (pe_ix ix_tup (pv 9) pe_int (fun _ _ => rfl)) pe_str (nomark _)) (pe_lc (own := [("_law_part", 13)]) (g := gName 13) (by rfl) scLHouse.nd (pi_tup (pe_slice sl_tupA (pv 9) (po_some pe_int) po_none)) (blkOk_by (N := nLHouse) (sc := defScope sLHouse) (by decide +kernel)) (fun _ _ _ _ _ => pg_name (i := 13) scLHouse.nd rfl (Or.inl rfl)) (fun _ _ _ _ _ => pts_nil) (fun _ _ _ _ _ => pe_ix (r := rIxT K) ix_tup (pv 13) pe_int (fun _ _ => rfl))) (pe_lst (pa_cons (pe_ix ix_tup (pv 9) pe_int (fun _ _ => rfl)) pa_nil)))) <|
       pssW (u := fun En σ H => ∃ (D : Addr) (ns : List Str), tRlEnd l m D ns En σ H) (pss_cons (ps_if (PW.pt (pw_or (pt_cmpR (op_neNil hu0) (pe_lc (own := [("_law_one", 14)]) (g := gName 14) (by rfl) scLHouse.nd (pi_list (pv 10)) (blkOk_by (N := nLHouse) (sc := defScope sLHouse) (by decide +kernel)) (fun _ _ _ _ _ => pg_name (i := 14) scLHouse.nd rfl (Or.inl rfl)) (fun _ _ _ _ _ => pts_one (pt_cmpR (r := rNiS K) (op_notInS hu) (pv 14) (pv 2) (by rfl))) (fun _ _ _ _ _ => pv 14)) (pe_lst pa_nil) (nomark _)) (pw_or1 (pt_cmpR (op_neNil hu0) (pe_lc (own := [("_law_one", 14)]) (g := gName 14) (by rfl) scLHouse.nd (pi_list (pv 11)) (blkOk_by (N := nLHouse) (sc := defScope sLHouse) (by decide +kernel)) (fun _ _ _ _ _ => pg_name (i := 14) scLHouse.nd rfl (Or.inl rfl)) (fun _ _ _ _ _ => pts_one (pt_cmpR op_gt (pe_callB call_abs (by rfl) mA (by decide +kernel) (pa_cons (pv 14) pa_nil)) (pe_op op_pow pe_int pe_int) (nomark _))) (fun _ _ _ _ _ => pv 14)) (pe_lst pa_nil) (nomark _))))) (pss_one (ps_ret pe_bl)) pss_nil) <|
       pss_one (ps_if (PW.pt (pw_and (pt_cmpR op_ne (pe_ix ix_tup (pv 9) pe_int (fun _ _ => rfl)) pe_str (nomark _)) (pw_and1 (pt_cmpR op_eq (pe_ix ix_tup (pv 9) pe_int (fun _ _ => rfl)) (pe_ix ix_tup (pv 9) pe_int (fun _ _ => rfl)) (nomark _))))) (pss_one (ps_ret pe_bl)) pss_nil)) ?tail)) <|
    pss_one (ps_ret pe_bl), ?_⟩
  case tail =>
    rintro En σ H1 ⟨D, ns, b, N1, N2, r, v3, v4, v5, v6, v7, v8, rfl, ra, rg, h1, h2, hD, kb, kg⟩
    have sl := sizeLine_eq
    have kl : (knownR r).length ≤ 2 := by cases r <;> simp [knownR]
    have fl : (farR r).length ≤ 2 := by cases r <;> simp [farR]
    refine ⟨_, rfl, N1, rfl, ⟨_, SqL.of h1⟩, fun C hC => lc_list (K := K) (a := N1) (xs := (knownR r).map V.str) (fun i H2 => H2 C = some (.lst (keepV V.str (fun z => !inS ns (.str z)) ((knownR r).take i))) ∧ Same H1 H2) ⟨upd_same, sameNew hC _⟩ (fun i H2 _ ⟨_, s2⟩ => SqL.of (s2 _ _ h1)) ?_ ?_⟩
    · rintro i y H2 hy ⟨e2, s2⟩
      obtain ⟨z, rfl, hz⟩ := strs_get hy
      have il := (List.getElem?_eq_some_iff.mp hz).1
      refine ⟨rfl, _, rfl, _, rfl, .str z, D, ns, .str z, rfl, .inl (SqL.of (s2 _ _ hD)), _, rfl, ?_⟩
      rw [show (ns.any fun y => strIs y (.str z)) = inS ns (.str z) from rfl]
      have st := keepV_snoc (f := V.str) (p := fun z => !inS ns (.str z)) hz
      have kl2 := keepV_len V.str (fun z => !inS ns (.str z)) ((knownR r).take i)
      rw [List.length_take] at kl2
      cases c : inS ns (.str z) with
      | true =>
        rw [c] at st
        refine iteF ⟨?_, s2⟩
        rw [e2, st]
        rfl
      | false =>
        rw [c] at st
        refine iteT ⟨_, rfl, _, e2, by omega, ?_, fun b o e => ?_⟩
        · rw [upd_same, st]
          rfl
        · rw [upd_ne (ne_of_none e hC)]
          exact s2 _ _ e
    rintro H2 ⟨e2, s2⟩
    rw [List.length_map, List.take_length] at e2
    refine ⟨by show 0 ≤ sizeLine; omega, fun L hL => ?_⟩
    have s3 := s2.trans (sameNew hL (.lst []))
    refine ⟨C, L, _, rfl, rfl, SqL.of (sameNew hL (.lst []) _ _ e2), SqL.of upd_same, _, rfl, ?_⟩
    rw [keepV_nil, show (fun z => !!inS ns (.str z)) = (fun z => inS ns (.str z)) by funext z; simp]
    have rok : ruleOk ns r = (((knownR r).all fun z => inS ns (.str z)) && (((farR r).all nearI) && !loopR r)) := rfl
    generalize L2.upd H2 L (.lst []) = H3 at s3
    cases c1 : (knownR r).all fun z => inS ns (.str z) with
    | false =>
      rw [c1] at rok
      have q := kb (by rw [rok]; rfl) H3 s3
      first | exact q | exact iteT q | exact iteT (iteT q) | exact iteT (iteT (iteT q)) | exact iteF ⟨_, rfl, iteT q⟩ | exact iteF ⟨_, rfl, iteT (iteT q)⟩ | exact iteF (iteT q) | exact ⟨_, rfl, iteT q⟩ | exact ⟨_, rfl, iteT (iteT q)⟩
    | true =>
    rw [c1] at rok
    have h23 := s3 _ _ h2
    refine iteF ⟨_, rfl, N2, rfl, ⟨_, SqL.of h23⟩, fun C2 hC2 => lc_list (K := K) (a := N2) (xs := (farR r).map V.int) (fun i H4 => H4 C2 = some (.lst (keepV V.int (fun z => !nearI z) ((farR r).take i))) ∧ Same H3 H4) ⟨upd_same, sameNew hC2 _⟩ (fun i H4 _ ⟨_, s4⟩ => SqL.of (s4 _ _ h23)) ?_ ?_⟩
    · rintro i y H4 hy ⟨e4, s4⟩
      rw [List.getElem?_map] at hy
      obtain ⟨z, hz, rfl⟩ := Option.map_eq_some_iff.mp hy
      have il := (List.getElem?_eq_some_iff.mp hz).1
      refine ⟨rfl, _, rfl, z, rfl, _, _, rfl, rfl, ⟨by decide, by decide, by decide⟩, _, _, rfl, rfl, _, rfl, ?_⟩
      have e20 : (10 : Int) ^ (20 : Int).toNat = 100000000000000000000 := by decide
      rw [e20]
      have nz : decide ((100000000000000000000 : Int) < (if z < 0 then -z else z)) = !nearI z := by
        unfold nearI
        rw [Bool.not_not]
      rw [nz]
      have st := keepV_snoc (f := V.int) (p := fun z => !nearI z) hz
      have kl2 := keepV_len V.int (fun z => !nearI z) ((farR r).take i)
      rw [List.length_take] at kl2
      cases c : nearI z with
      | true =>
        rw [c] at st
        refine iteF ⟨?_, s4⟩
        rw [e4, st]
        rfl
      | false =>
        rw [c] at st
        refine iteT ⟨_, rfl, _, e4, by omega, ?_, fun b o e => ?_⟩
        · rw [upd_same, st]
          rfl
        · rw [upd_ne (ne_of_none e hC2)]
          exact s4 _ _ e
    rintro H4 ⟨e4, s4⟩
    rw [List.length_map, List.take_length] at e4
    refine ⟨by show 0 ≤ sizeLine; omega, fun L2' hL2 => ?_⟩
    have s5 := (s3.trans s4).trans (sameNew hL2 (.lst []))
    refine ⟨C2, L2', _, rfl, rfl, SqL.of (sameNew hL2 (.lst []) _ _ e4), SqL.of upd_same, _, rfl, ?_⟩
    rw [keepV_nil, show (fun z => !!nearI z) = nearI by funext z; simp]
    generalize L2.upd H4 L2' (.lst []) = H5 at s5
    cases c2 : (farR r).all nearI with
    | false =>
      rw [c2] at rok
      have q := kb (by rw [rok]; rfl) H5 s5
      first | exact q | exact iteT q | exact iteT (iteT q) | exact iteT (iteT (iteT q)) | exact iteF ⟨_, rfl, iteT q⟩ | exact iteF ⟨_, rfl, iteT (iteT q)⟩ | exact iteF (iteT q) | exact ⟨_, rfl, iteT q⟩ | exact ⟨_, rfl, iteT (iteT q)⟩
    | true =>
    rw [c2] at rok
    have ra5 := ra.same s5
    cases r with
    | one u t =>
      obtain ⟨p, q, q1, q2, q3⟩ := ra5
      have q := kg (by rw [rok]; rfl) H5 s5
      refine iteF ⟨_, rfl, b, _, _, _, rfl, rfl, SqT.of q1, rfl, rfl, _, rfl, ?_⟩
      first | exact iteF (iteF q) | exact iteF q
    | two w' x y c =>
      have q1 : H5 b = some (.tup [.str w', .str x, .str y, .int c]) := ra5
      have wne : w' ≠ "one" := fun z => by
        have := rg.1
        rw [z] at this
        revert this
        decide +kernel
      refine iteF ⟨_, rfl, b, _, _, _, rfl, rfl, SqT.of q1, rfl, rfl, _, rfl, ?_⟩
      rw [decide_eq_false (show ¬ V.str w' = V.str "one" from fun z => wne (V.str.inj z))]
      refine iteT ⟨_, rfl, b, _, _, _, rfl, rfl, SqT.of q1, rfl, _, rfl, b, _, _, _, rfl, rfl, SqT.of q1, rfl, rfl, _, rfl, ?_⟩
      have lo : loopR (.two w' x y c) = decide (x = y) := rfl
      rw [lo] at rok
      by_cases c3 : x = y
      · rw [decide_eq_true c3] at rok
        have q := kb (by rw [rok]; rfl) H5 s5
        rw [decide_eq_true (show V.str x = V.str y by rw [c3])]
        first | exact q | exact iteT q | exact iteT (iteT q) | exact iteT (iteT (iteT q)) | exact iteF ⟨_, rfl, iteT q⟩ | exact iteF ⟨_, rfl, iteT (iteT q)⟩ | exact iteF (iteT q) | exact ⟨_, rfl, iteT q⟩ | exact ⟨_, rfl, iteT (iteT q)⟩
      · rw [decide_eq_false c3] at rok
        have q := kg (by rw [rok]; rfl) H5 s5
        rw [decide_eq_false (show ¬ V.str x = V.str y from fun z => c3 (V.str.inj z))]
        exact iteF q
  have sl := sizeLine_eq
  have pl := pd.length
  have rl := pr.length
  have kF : ∀ H', Same H H' → houseL ds rs = false → Q (.bl false) H' := fun H' s e => by
    have q := k H' s
    rw [e] at q
    exact q
  have ml : (as.map V.ref).length = ds.length := by rw [List.length_map, pl]
  have mr : (bs.map V.ref).length = rs.length := by rw [List.length_map, rl]
  refine ⟨_, rfl, l, rfl, ⟨_, SqL.of hl⟩, fun D hD => lc_list (K := K) (a := l) (xs := as.map V.ref) (fun i H1 => H1 D = some (.lst ((ds.take i).map fun d => V.str d.nm)) ∧ Same H H1) ⟨upd_same, sameNew hD _⟩ (fun i H1 _ ⟨_, s1⟩ => SqL.of (s1 _ _ hl)) ?_ ?_⟩
  · rintro i y H1 hy ⟨e1, s1⟩
    obtain ⟨a, rfl, ha⟩ := refs_get hy
    obtain ⟨d, hd, da⟩ := pr_get pd ha
    have il := (List.getElem?_eq_some_iff.mp hd).1
    refine ⟨rfl, _, rfl, a, _, _, _, rfl, rfl, SqT.of (s1 _ _ da), rfl, _, e1, by rw [List.length_map, List.length_take]; omega, ?_, fun b o e => ?_⟩
    · rw [upd_same, take_more hd, List.map_append]
      rfl
    · rw [upd_ne (ne_of_none e hD)]
      exact s1 _ _ e
  rintro H1 ⟨e1, s1⟩
  rw [List.length_map, List.take_of_length_le (by omega)] at e1
  have hl1 := s1 _ _ hl
  have hm1 := s1 _ _ hm
  have ens : (ds.map fun d => V.str d.nm) = (ds.map (·.nm)).map V.str := by rw [List.map_map]; rfl
  rw [ens] at e1
  have nmok : ∀ x ∈ ds.map (·.nm), nmOk x := fun x hx => by
    obtain ⟨d, hd, rfl⟩ := List.mem_map.mp hx
    exact nameD_nm (gd d hd).1
  have nl : (ds.map (·.nm)).length = ds.length := List.length_map ..
  generalize ens2 : ds.map (·.nm) = ns at e1 nmok nl
  have hh : houseL ds rs = ((decide (1 ≤ ds.length) && decide (ds.length ≤ 12)) && (decide (rs.length ≤ 40) && (strS none ns && (decide ((rs.map ruleK).Nodup) && (ds.all dialOk && rs.all (ruleOk ns)))))) := by rw [← ens2]; rfl
  rw [hh] at k kF
  refine ⟨_, rfl, l, _, rfl, .inl (SqL.of hl1), _, _, rfl, rfl, _, rfl, ?_⟩
  by_cases c1 : 1 ≤ ds.length
  case neg =>
    rw [decide_eq_false c1] at kF
    have q := kF H1 s1 (by rfl)
    rw [decide_eq_false (show ¬ (1 : Int) ≤ (((as.map V.ref).length : Nat) : Int) by rw [ml]; omega)]
    first | exact q | exact iteT q | exact iteT (iteT q) | exact iteT (iteT (iteT q)) | exact iteF ⟨_, rfl, iteT q⟩ | exact iteF ⟨_, rfl, iteT (iteT q)⟩ | exact iteF (iteT q) | exact ⟨_, rfl, iteT q⟩ | exact ⟨_, rfl, iteT (iteT q)⟩
  rw [decide_eq_true c1] at kF k
  rw [decide_eq_true (show (1 : Int) ≤ (((as.map V.ref).length : Nat) : Int) by rw [ml]; omega)]
  refine iteT ⟨_, _, rfl, rfl, _, rfl, ?_⟩
  by_cases c2 : ds.length ≤ 12
  case neg =>
    rw [decide_eq_false c2] at kF
    have q := kF H1 s1 (by rfl)
    rw [decide_eq_false (show ¬ (((as.map V.ref).length : Nat) : Int) ≤ 12 by rw [ml]; omega)]
    first | exact q | exact iteT q | exact iteT (iteT q) | exact iteT (iteT (iteT q)) | exact iteF ⟨_, rfl, iteT q⟩ | exact iteF ⟨_, rfl, iteT (iteT q)⟩ | exact iteF (iteT q) | exact ⟨_, rfl, iteT q⟩ | exact ⟨_, rfl, iteT (iteT q)⟩
  rw [decide_eq_true c2] at kF k
  rw [decide_eq_true (show (((as.map V.ref).length : Nat) : Int) ≤ 12 by rw [ml]; omega)]
  refine iteF ⟨_, rfl, m, _, rfl, .inl (SqL.of hm1), _, _, rfl, rfl, _, rfl, ?_⟩
  by_cases c3 : rs.length ≤ 40
  case neg =>
    rw [decide_eq_false c3] at kF
    have q := kF H1 s1 (by rfl)
    rw [decide_eq_true (show (40 : Int) < (((bs.map V.ref).length : Nat) : Int) by rw [mr]; omega)]
    first | exact q | exact iteT q | exact iteT (iteT q) | exact iteT (iteT (iteT q)) | exact iteF ⟨_, rfl, iteT q⟩ | exact iteF ⟨_, rfl, iteT (iteT q)⟩ | exact iteF (iteT q) | exact ⟨_, rfl, iteT q⟩ | exact ⟨_, rfl, iteT (iteT q)⟩
  rw [decide_eq_true c3] at kF k
  rw [decide_eq_false (show ¬ (40 : Int) < (((bs.map V.ref).length : Nat) : Int) by rw [mr]; omega)]
  refine iteF ⟨_, rfl, _, rfl, D, ns, rfl, SqL.of e1, by omega, fun a zs ha hz mz => ⟨a, zs, rfl, upd_same, by omega, fun nd ys p pm so hp => ?_⟩⟩
  generalize eH : L2.upd (L2.upd H1 a _) p _ = H3
  have s13 : Same H1 H3 := by rw [← eH]; exact (sameNew ha _).trans (sameNew hp _)
  have ep : H3 p = some (.lst (ys.map V.str)) := by rw [← eH]; exact upd_same
  have s3 := s1.trans s13
  have e3 := s13 _ _ e1
  have ynm : ∀ x ∈ ys, nmOk x := fun x hx => nmok x ((mz x).mp (pm.mem_iff.mp hx))
  obtain ⟨la, ld⟩ := layStrs nmok
  obtain ⟨lb, le⟩ := layStrs ynm
  have wl : (PyData.list (ns.map PyData.str)).canLay0 = true := by rw [PyData.canLay0]; exact la
  have wl' : (PyData.list (ys.map PyData.str)).canLay0 = true := by rw [PyData.canLay0]; exact lb
  have wd : (PyData.list (ns.map PyData.str)).depth ≤ 2 := by rw [PyData.depth]; omega
  have wd' : (PyData.list (ys.map PyData.str)).depth ≤ 2 := by rw [PyData.depth]; omega
  refine ⟨.list (ns.map PyData.str), .list (ys.map PyData.str), Tr.dp (.lst e3 (trStrs _ _)) (noDict_of wl), Tr.dp (.lst ep (trStrs _ _)) (noDict_of wl'), shaped_of wl (by omega), shaped_of wl' (by omega), _, rfl, ?_⟩
  rw [show PyData.eqv (.list (ns.map PyData.str)) (.list (ys.map PyData.str)) = strS none ns by rw [PyData.eqv, eqv_strs, names_sorted mz pm nd so]]
  cases c4 : strS none ns with
  | false =>
    rw [c4] at kF
    have q := kF H3 s3 (by rfl)
    first | exact q | exact iteT q | exact iteT (iteT q) | exact iteT (iteT (iteT q)) | exact iteF ⟨_, rfl, iteT q⟩ | exact iteF ⟨_, rfl, iteT (iteT q)⟩ | exact iteF (iteT q) | exact ⟨_, rfl, iteT q⟩ | exact ⟨_, rfl, iteT (iteT q)⟩
  | true =>
  rw [c4] at kF k
  have hl3 := s3 _ _ hl
  have hm3 := s3 _ _ hm
  have pr3 := L2.Paired.mapP pr fun b r h => RwAt.same h s3
  have kl : (keysOf bs rs).length = rs.length := by
    have := congrArg List.length (keys_keys (bs := bs) (rs := rs) rl)
    rw [List.length_map, List.length_map] at this
    exact this
  refine iteF ⟨_, rfl, m, keysOf bs rs, rfl, by rw [keys_refs rl]; exact SqL.of hm3, keys_nv pr3, by omega, fun a2 n ha2 hn hiff => ⟨a2, n, rfl, upd_same, ?_⟩⟩
  generalize eH4 : L2.upd H3 a2 _ = H4
  have s34 : Same H3 H4 := by rw [← eH4]; exact sameNew ha2 _
  have s4 := s3.trans s34
  have e4 := s34 _ _ e3
  have hl4 := s4 _ _ hl
  have hm4 := s4 _ _ hm
  refine ⟨_, rfl, m, _, rfl, .inl (SqL.of hm4), rfl, _, rfl, ?_⟩
  rw [kl, keys_keys rl] at hiff
  by_cases c5 : (rs.map ruleK).Nodup
  case neg =>
    rw [decide_eq_false c5] at kF
    have q := kF H4 s4 (by rfl)
    rw [decide_eq_false (show ¬ V.int (n : Nat) = V.int (((bs.map V.ref).length : Nat) : Int) from fun z => c5 (hiff.mp (by have := V.int.inj z; rw [mr] at this; omega)))]
    first | exact q | exact iteT q | exact iteT (iteT q) | exact iteT (iteT (iteT q)) | exact iteF ⟨_, rfl, iteT q⟩ | exact iteF ⟨_, rfl, iteT (iteT q)⟩ | exact iteF (iteT q) | exact ⟨_, rfl, iteT q⟩ | exact ⟨_, rfl, iteT (iteT q)⟩
  rw [decide_eq_true c5] at kF k
  rw [decide_eq_true (show V.int (n : Nat) = V.int (((bs.map V.ref).length : Nat) : Int) by rw [mr, hiff.mpr c5])]
  refine iteF ?_
  -- the dials
  refine ⟨_, rfl, l, rfl, ⟨_, SqL.of hl4⟩, for_list (K := K) (a := l) (xs := as.map V.ref) (fun i σ H5 => ∃ v3 v4 v5 v6 v7 v8 : Option V, σ = [some (.ref l), some (.ref m), some (.ref D), v3, v4, v5, v6, v7, v8, none, none, none, none, none, none] ∧ Same H4 H5 ∧ (ds.take i).all dialOk = true)
    ⟨none, none, none, none, none, none, rfl, Same.refl _, rfl⟩ (fun i σ H5 _ ⟨_, _, _, _, _, _, _, s5, _⟩ => SqL.of (s5 _ _ hl4)) ?_ ?_⟩
  · rintro i y σ H5 hy ⟨v3, v4, v5, v6, v7, v8, rfl, s5, al5⟩
    obtain ⟨a, rfl, ha⟩ := refs_get hy
    obtain ⟨d, hd, da⟩ := pr_get pd ha
    have s45 := s4.trans s5
    have da5 := s45 _ _ da
    have dm := List.mem_of_getElem? hd
    refine ⟨a, _, rfl, SqT.of da5, rfl, _, _, rfl, _, _, rfl, _, _, rfl, _, _, rfl, _, _, rfl, _, _, rfl, rfl, ?_⟩
    have bad : dialOk d = false → Q (.bl false) H5 := fun e => kF H5 s45 (by
      have : ds.all dialOk = false := by
        rw [← Bool.not_eq_true, List.all_eq_true]
        intro z
        rw [z d dm] at e
        cases e
      rw [this]
      rfl)
    have e18 : (10 : Int) ^ (18 : Int).toNat = 1000000000000000000 := by decide
    have e6 : (10 : Int) ^ (6 : Int).toNat = 1000000 := by decide
    have fg : farS = 1000000000000000000 := rfl
    have dok : dialOk d = ((decide (-farS ≤ d.lo) && (decide (d.lo ≤ d.hi) && decide (d.hi ≤ farS))) && (decide (1 ≤ (if d.dn < d.up then d.dn else d.up)) && decide ((if d.dn > d.up then d.dn else d.up) ≤ 1000000))) := rfl
    refine ⟨_, _, rfl, rfl, ⟨by decide, by decide, by decide⟩, _, _, rfl, rfl, _, rfl, _, _, rfl, rfl, _, rfl, ?_⟩
    rw [e18]
    by_cases q1 : -farS ≤ d.lo
    case neg =>
      rw [decide_eq_false q1] at dok
      have q := bad (by rw [dok]; rfl)
      rw [decide_eq_false (show ¬ (0 : Int) - 1000000000000000000 ≤ d.lo by omega)]
      first | exact q | exact iteT q | exact iteT (iteT q) | exact iteT (iteT (iteT q)) | exact iteF ⟨_, rfl, iteT q⟩ | exact iteF ⟨_, rfl, iteT (iteT q)⟩ | exact iteF (iteT q) | exact ⟨_, rfl, iteT q⟩ | exact ⟨_, rfl, iteT (iteT q)⟩
    rw [decide_eq_true q1] at dok
    rw [decide_eq_true (show (0 : Int) - 1000000000000000000 ≤ d.lo by omega)]
    refine iteT ⟨_, rfl, _, _, rfl, rfl, _, rfl, ?_⟩
    by_cases q2 : d.lo ≤ d.hi
    case neg =>
      rw [decide_eq_false q2] at dok
      have q := bad (by rw [dok]; rfl)
      rw [decide_eq_false q2]
      first | exact q | exact iteT q | exact iteT (iteT q) | exact iteT (iteT (iteT q)) | exact iteF ⟨_, rfl, iteT q⟩ | exact iteF ⟨_, rfl, iteT (iteT q)⟩ | exact iteF (iteT q) | exact ⟨_, rfl, iteT q⟩ | exact ⟨_, rfl, iteT (iteT q)⟩
    rw [decide_eq_true q2] at dok
    rw [decide_eq_true q2]
    refine iteT ⟨_, _, rfl, rfl, ⟨by decide, by decide, by decide⟩, _, _, rfl, rfl, _, rfl, ?_⟩
    rw [e18]
    by_cases q3 : d.hi ≤ farS
    case neg =>
      rw [decide_eq_false q3] at dok
      have q := bad (by rw [dok]; rfl)
      rw [decide_eq_false (show ¬ d.hi ≤ 1000000000000000000 by omega)]
      first | exact q | exact iteT q | exact iteT (iteT q) | exact iteT (iteT (iteT q)) | exact iteF ⟨_, rfl, iteT q⟩ | exact iteF ⟨_, rfl, iteT (iteT q)⟩ | exact iteF (iteT q) | exact ⟨_, rfl, iteT q⟩ | exact ⟨_, rfl, iteT (iteT q)⟩
    rw [decide_eq_true q3] at dok
    rw [decide_eq_true (show d.hi ≤ 1000000000000000000 by omega)]
    refine iteF ⟨_, rfl, _, rfl, _, _, rfl, _, _, rfl, rfl, _, rfl, ?_⟩
    by_cases q4 : 1 ≤ (if d.dn < d.up then d.dn else d.up)
    case neg =>
      rw [decide_eq_false q4] at dok
      have q := bad (by rw [dok]; rfl)
      rw [decide_eq_false q4]
      first | exact q | exact iteT q | exact iteT (iteT q) | exact iteT (iteT (iteT q)) | exact iteF ⟨_, rfl, iteT q⟩ | exact iteF ⟨_, rfl, iteT (iteT q)⟩ | exact iteF (iteT q) | exact ⟨_, rfl, iteT q⟩ | exact ⟨_, rfl, iteT (iteT q)⟩
    rw [decide_eq_true q4] at dok
    rw [decide_eq_true q4]
    refine iteF ⟨_, rfl, _, rfl, _, _, rfl, _, _, rfl, rfl, ⟨by decide, by decide, by decide⟩, _, _, rfl, rfl, _, rfl, ?_⟩
    rw [e6]
    by_cases q5 : (if d.dn > d.up then d.dn else d.up) ≤ 1000000
    case neg =>
      rw [decide_eq_false q5] at dok
      have q := bad (by rw [dok]; rfl)
      rw [decide_eq_true (show (1000000 : Int) < (if d.dn > d.up then d.dn else d.up) by omega)]
      first | exact q | exact iteT q | exact iteT (iteT q) | exact iteT (iteT (iteT q)) | exact iteF ⟨_, rfl, iteT q⟩ | exact iteF ⟨_, rfl, iteT (iteT q)⟩ | exact iteF (iteT q) | exact ⟨_, rfl, iteT q⟩ | exact ⟨_, rfl, iteT (iteT q)⟩
    rw [decide_eq_true q5] at dok
    rw [decide_eq_false (show ¬ (1000000 : Int) < (if d.dn > d.up then d.dn else d.up) by omega)]
    refine iteF ⟨_, _, _, _, _, _, rfl, s5, ?_⟩
    rw [take_more hd, List.all_append, al5, List.all_cons, dok]
    rfl
  · rintro σ H5 ⟨v3, v4, v5, v6, v7, v8, rfl, s5, al5⟩
    rw [ml, List.take_length] at al5
    rw [al5] at kF k
    have s45 := s4.trans s5
    have hl5 := s45 _ _ hl
    have hm5 := s45 _ _ hm
    have e5 := s5 _ _ e4
    refine ⟨_, rfl, m, rfl, ⟨_, SqL.of hm5⟩, for_list (K := K) (a := m) (xs := bs.map V.ref) (fun i σ H6 => ∃ v9 v10 v11 : Option V, σ = [some (.ref l), some (.ref m), some (.ref D), v3, v4, v5, v6, v7, v8, v9, v10, v11, none, none, none] ∧ Same H5 H6 ∧ (rs.take i).all (ruleOk ns) = true)
      ⟨none, none, none, rfl, Same.refl _, rfl⟩ (fun i σ H6 _ ⟨_, _, _, _, s6, _⟩ => SqL.of (s6 _ _ hm5)) ?_ ?_⟩
    · rintro i y σ H6 hy ⟨v9, v10, v11, rfl, s6, al6⟩
      obtain ⟨b, rfl, hb⟩ := refs_get hy
      obtain ⟨r, hr', ra⟩ := pr_get pr hb
      have s46 := s45.trans s6
      have ra6 := ra.same s46
      have rm := List.mem_of_getElem? hr'
      have bad : ∀ H', Same H6 H' → ruleOk ns r = false → Q (.bl false) H' := fun H' s' e => kF H' (s46.trans s') (by
        have : rs.all (ruleOk ns) = false := by
          rw [← Bool.not_eq_true, List.all_eq_true]
          intro z
          rw [z r rm] at e
          cases e
        rw [this]
        rfl)
      have good : ruleOk ns r = true → (rs.take (i + 1)).all (ruleOk ns) = true := fun e => by
        rw [take_more hr', List.all_append, al6, List.all_cons, e]
        rfl
      have rgr := gr r rm
      cases r with
      | one u t =>
        obtain ⟨p, q, q1, q2, q3⟩ := ra6
        refine ⟨_, rfl, b, _, _, _, rfl, rfl, SqT.of q1, rfl, rfl, _, rfl, iteT ?_⟩
        have cu : cutV [V.str "one", .ref p, .ref q] (some 1) none = [V.ref p, V.ref q] := cutV_tail
        have slf : ¬ (HT.sIx [V.str "one", .ref p, .ref q].length 0 (some 1) = 0 ∧ HT.sIx [V.str "one", .ref p, .ref q].length [V.str "one", .ref p, .ref q].length none = [V.str "one", .ref p, .ref q].length) := by
          show ¬ (HT.sIx 3 0 (some 1) = 0 ∧ HT.sIx 3 3 none = 3)
          decide
        refine ⟨_, rfl, 1, rfl, b, _, rfl, SqT.of q1, fun z => absurd z slf, fun _ T nT => ?_⟩
        rw [cu]
        have s7 := sameNew nT (.tup [V.ref p, V.ref q])
        have hT : L2.upd H6 T (.tup [V.ref p, V.ref q]) T = some (.tup [V.ref p, V.ref q]) := upd_same
        generalize L2.upd H6 T (.tup [V.ref p, V.ref q]) = H7 at s7 hT
        have part : ∀ (H8 : Hp) (i : Nat) (y : V), Same H7 H8 → [V.ref p, V.ref q][i]? = some y → ∃ (c : Addr) (sv : Say), y = .ref c ∧ H8 c = some (.tup (sayV sv)) ∧ [u, t][i]? = some sv := fun H8 i y s8 hy => by
          match i, hy with
          | 0, hy => exact ⟨p, u, (Option.some.inj hy).symm, s8 _ _ (s7 _ _ q2), rfl⟩
          | 1, hy => exact ⟨q, t, (Option.some.inj hy).symm, s8 _ _ (s7 _ _ q3), rfl⟩
          | i + 2, hy => simp at hy
        refine ⟨T, rfl, ⟨_, SqT.of hT⟩, fun D2 hD2 => lc_tup (K := K) (a := T) (xs := [V.ref p, V.ref q]) (fun i H8 => H8 D2 = some (.lst (([u, t].take i).map fun s => V.str s.1)) ∧ Same H7 H8) ⟨upd_same, sameNew hD2 _⟩ (fun i H8 _ ⟨_, s8⟩ => SqT.of (s8 _ _ hT)) ?_ ?_⟩
        · rintro i y H8 hy ⟨e8, s8⟩
          obtain ⟨c, sv, rfl, hc, hv⟩ := part H8 i y s8 hy
          refine ⟨rfl, _, rfl, c, _, _, _, rfl, rfl, SqT.of hc, rfl, _, e8, by rw [List.length_map, List.length_take]; show min i 2 < sizeLine; omega, ?_, fun b o e => ?_⟩
          · rw [upd_same, take_more hv, List.map_append]
            rfl
          · rw [upd_ne (ne_of_none e hD2)]
            exact s8 _ _ e
        rintro H8 ⟨e8, s8⟩
        have e8 : H8 D2 = some (.lst ((knownR (.one u t)).map V.str)) := e8
        have s68 := s7.trans s8
        have q1' := s68 _ _ q1
        refine ⟨_, rfl, b, _, _, _, rfl, rfl, SqT.of q1', rfl, rfl, _, rfl, iteT ?_⟩
        refine ⟨_, rfl, 1, rfl, b, _, rfl, SqT.of q1', fun z => absurd z slf, fun _ T2 nT2 => ?_⟩
        rw [cu]
        have s9 := sameNew nT2 (.tup [V.ref p, V.ref q])
        have hT2 : L2.upd H8 T2 (.tup [V.ref p, V.ref q]) T2 = some (.tup [V.ref p, V.ref q]) := upd_same
        generalize L2.upd H8 T2 (.tup [V.ref p, V.ref q]) = H9 at s9 hT2
        refine ⟨T2, rfl, ⟨_, SqT.of hT2⟩, fun D3 hD3 => lc_tup (K := K) (a := T2) (xs := [V.ref p, V.ref q]) (fun i H10 => H10 D3 = some (.lst (([u, t].take i).map fun s => V.int s.2.2)) ∧ Same H9 H10) ⟨upd_same, sameNew hD3 _⟩ (fun i H10 _ ⟨_, s10⟩ => SqT.of (s10 _ _ hT2)) ?_ ?_⟩
        · rintro i y H10 hy ⟨e10, s10⟩
          obtain ⟨c, sv, rfl, hc, hv⟩ := part H10 i y ((s8.trans s9).trans s10) hy
          refine ⟨rfl, _, rfl, c, _, _, _, rfl, rfl, SqT.of hc, rfl, _, e10, by rw [List.length_map, List.length_take]; show min i 2 < sizeLine; omega, ?_, fun b o e => ?_⟩
          · rw [upd_same, take_more hv, List.map_append]
            rfl
          · rw [upd_ne (ne_of_none e hD3)]
            exact s10 _ _ e
        rintro H10 ⟨e10, s10⟩
        have e10 : H10 D3 = some (.lst ((farR (.one u t)).map V.int)) := e10
        have s610 := (s68.trans s9).trans s10
        refine ⟨D, ns, b, D2, D3, .one u t, _, _, _, _, _, _, rfl, ⟨p, q, s610 _ _ q1, s610 _ _ q2, s610 _ _ q3⟩, rgr, (s9.trans s10) _ _ e8, e10, s610 _ _ (s6 _ _ e5), fun e H' s' => bad H' (s610.trans s') e, fun e H' s' => ⟨_, _, _, rfl, s6.trans (s610.trans s'), good e⟩⟩
      | two w' x y c =>
        have q1 : H6 b = some (.tup [.str w', .str x, .str y, .int c]) := ra6
        have wne : w' ≠ "one" := fun z => by
          have := rgr.1
          rw [z] at this
          revert this
          decide +kernel
        refine ⟨_, rfl, b, _, _, _, rfl, rfl, SqT.of q1, rfl, rfl, _, rfl, ?_⟩
        rw [decide_eq_false (show ¬ V.str w' = V.str "one" from fun z => wne (V.str.inj z))]
        have cu : cutV [V.str w', .str x, .str y, .int c] (some 1) (some 3) = [V.str x, V.str y] := rfl
        have slf : ¬ (HT.sIx [V.str w', .str x, .str y, .int c].length 0 (some 1) = 0 ∧ HT.sIx [V.str w', .str x, .str y, .int c].length [V.str w', .str x, .str y, .int c].length (some 3) = [V.str w', .str x, .str y, .int c].length) := by
          show ¬ (HT.sIx 4 0 (some 1) = 0 ∧ HT.sIx 4 4 (some 3) = 4)
          decide
        refine iteF ⟨_, rfl, 1, rfl, 3, rfl, b, _, rfl, SqT.of q1, fun z => absurd z slf, fun _ T nT => ?_⟩
        rw [cu]
        have s7 := sameNew nT (.tup [V.str x, V.str y])
        have hT : L2.upd H6 T (.tup [V.str x, V.str y]) T = some (.tup [V.str x, V.str y]) := upd_same
        generalize L2.upd H6 T (.tup [V.str x, V.str y]) = H7 at s7 hT
        refine ⟨T, _, rfl, .inr (SqT.of hT), fun N1 hN1 => ?_⟩
        have s8 := s7.trans (sameNew hN1 (.lst [V.str x, V.str y]))
        have h1 : L2.upd H7 N1 (.lst [V.str x, V.str y]) N1 = some (.lst [V.str x, V.str y]) := upd_same
        generalize L2.upd H7 N1 (.lst [V.str x, V.str y]) = H8 at s8 h1
        have q18 := s8 _ _ q1
        refine ⟨_, rfl, b, _, _, _, rfl, rfl, SqT.of q18, rfl, rfl, _, rfl, ?_⟩
        rw [decide_eq_false (show ¬ V.str w' = V.str "one" from fun z => wne (V.str.inj z))]
        refine iteF ⟨_, rfl, b, _, _, _, rfl, rfl, SqT.of q18, rfl, by show 1 ≤ sizeLine; decide, fun N2 hN2 => ?_⟩
        have s9 := s8.trans (sameNew hN2 (.lst [V.int c]))
        refine ⟨D, ns, b, N1, N2, .two w' x y c, _, _, _, _, _, _, rfl, s9 _ _ q1, rgr, sameNew hN2 (.lst [V.int c]) _ _ h1, upd_same, s9 _ _ (s6 _ _ e5), fun e H' s' => bad H' (s9.trans s') e, fun e H' s' => ⟨_, _, _, rfl, s6.trans (s9.trans s'), good e⟩⟩
    · rintro σ H6 ⟨v9, v10, v11, rfl, s6, al6⟩
      rw [mr, List.take_length] at al6
      rw [al6] at k
      exact k H6 (s45.trans s6)
end
end Pk
end
section
set_option maxHeartbeats 1000000
/-! The law's own: due. -/
namespace Pk
open PySem PySem.Spec PyProof.Rows L2 TL
abbrev sLDue : Stmt := topH 58
theorem DwAt.upd {H : Hp} {a D : Addr} {d : Dw} {xs : List V} {u : HO} (h : DwAt H a d) (hD : H D = some (.lst xs)) : DwAt (L2.upd H D u) a d := by
  unfold DwAt at *
  rw [upd_ne (fun z => by rw [z, hD] at h; cases h)]
  exact h
theorem RwAt.upd {H : Hp} {a D : Addr} {r : Rw} {xs : List V} {u : HO} (h : RwAt H a r) (hD : H D = some (.lst xs)) : RwAt (L2.upd H D u) a r := by
  have ne : ∀ {b : Addr} {ys : List V}, H b = some (.tup ys) → L2.upd H D u b = some (.tup ys) := fun {b ys} e => by
    rw [upd_ne (fun z => by rw [z, hD] at e; cases e)]
    exact e
  cases r with
  | one s t =>
    obtain ⟨p, q, h1, h2, h3⟩ := h
    exact ⟨p, q, ne h1, ne h2, ne h3⟩
  | two w x y c => exact ne h
theorem readW_good {x : Str} {o : Row} (h : readW x = some o) : match o with | .dial d => DwG d | .rule r => RwG r := by
  unfold readW at h
  cases e1 : readR (Txt.split x " ") with
  | some r =>
    rw [e1] at h
    cases h
    exact readR_good e1
  | none =>
    rw [e1] at h
    cases e2 : readD (Txt.split x " ") with
    | some d =>
      rw [e2] at h
      cases h
      exact readD_good e2
    | none =>
      rw [e2] at h
      cases h
theorem readX_empty : readX "" = .inl 0 := by
  refine readX_inl ?_
  have e1 : Txt.split "" "\n" = [("" : Str)] := by decide +kernel
  have e2 : Txt.split "" " " = [("" : Str)] := by decide +kernel
  have e3 : readW "" = none := by
    unfold readW
    rw [e2]
    rfl
  rw [e1]
  show (match readW "" with | some (.rule r) => readH 1 [] ([] ++ [r]) [] | some (.dial d) => if ([] : List Rw).isEmpty then readH 1 ([] ++ [d]) [] [] else .inl 0 | none => .inl 0) = _
  rw [e3]
/-- what the loop of due keeps -/
structure DuS (H H5 : Hp) (W D R : Addr) (rows : List Str) (i : Nat) (as bs : List Addr) (ds : List Dw) (rs : List Rw) : Prop where
  s : Same H H5
  hw : H5 W = some (.lst (rows.map V.str))
  hd : H5 D = some (.lst (as.map V.ref))
  hr : H5 R = some (.lst (bs.map V.ref))
  pd : Paired (DwAt H5) as ds
  pr : Paired (RwAt H5) bs rs
  rd : readH 0 [] [] rows = readH i ds rs (rows.drop i)
  gd : ∀ d ∈ ds, DwG d
  gr : ∀ r ∈ rs, RwG r
  ld : ds.length ≤ i
  lr : rs.length ≤ i
theorem DuS.same {H H5 H6 : Hp} {W D R : Addr} {rows : List Str} {i : Nat} {as bs : List Addr} {ds : List Dw} {rs : List Rw} (S : DuS H H5 W D R rows i as bs ds rs) (s : Same H5 H6) : DuS H H6 W D R rows i as bs ds rs :=
  ⟨S.s.trans s, s _ _ S.hw, s _ _ S.hd, s _ _ S.hr, L2.Paired.mapP S.pd fun a d h => DwAt.same h s, L2.Paired.mapP S.pr fun a d h => RwAt.same h s, S.rd, S.gd, S.gr, S.ld, S.lr⟩
theorem dws_tr {H : Hp} : ∀ {as : List Addr} {ds : List Dw}, Paired (DwAt H) as ds → TrAll H (as.map V.ref) (ds.map dialP)
  | _, _, .nil => .nil
  | _, _, .cons h t => .cons (.tup h (.cons (.str _) (.cons (.int _) (.cons (.int _) (.cons (.str _) (.cons (.int _) (.cons (.int _) .nil))))))) (dws_tr t)
theorem RwAt.tr {H : Hp} {a : Addr} {r : Rw} (h : RwAt H a r) : Tr H (.ref a) (ruleP r) := by
  cases r with
  | one s t =>
    obtain ⟨p, q, h1, h2, h3⟩ := h
    exact .tup h1 (.cons (.str _) (.cons (.tup h2 (.cons (.str _) (.cons (.str _) (.cons (.int _) .nil)))) (.cons (.tup h3 (.cons (.str _) (.cons (.str _) (.cons (.int _) .nil)))) .nil)))
  | two w x y c => exact .tup h (.cons (.str _) (.cons (.str _) (.cons (.str _) (.cons (.int _) .nil))))
theorem rws_tr {H : Hp} : ∀ {as : List Addr} {ds : List Rw}, Paired (RwAt H) as ds → TrAll H (as.map V.ref) (ds.map ruleP)
  | _, _, .nil => .nil
  | _, _, .cons h t => .cons h.tr (rws_tr t)
theorem RwAt.tup {H : Hp} {a : Addr} {r : Rw} (h : RwAt H a r) : ∃ xs, H a = some (.tup xs) ∧ (xs.length = 3 ∨ xs.length = 4) := by
  cases r with
  | one s t =>
    obtain ⟨p, q, h1, h2, h3⟩ := h
    exact ⟨_, h1, .inl rfl⟩
  | two w x y c => exact ⟨_, h, .inr rfl⟩
def spLDue : Sp := fun vs H Q _ => ∃ x : Str, vs = [.str x] ∧ x.length + 16 ≤ sizeLine ∧ ∀ (v : V) (H' : Hp), Same H H' → Tr H' v (toldP (readX x)) → Q v H'
section
variable {P : Program} {w : World} {K : PySem.W.Frag} {mg : Str → Option Value} {base : Heap}
abbrev nLDue : List Str := ["_law_text", "_law_rows", "_law_dials_here", "_law_rules", "_law_at", "_law_found"]
theorem scLDue : FnScope nLDue ["_law_text"] (defScope sLDue) := ⟨rfl, rfl, rfl, by decide +kernel, rfl, by decide +kernel, by decide +kernel⟩
theorem ok_ldue {f g1 g2 : Addr} {fd d1 d2 : FuncData} (F : Fun K "_law_due" "_law_due" sLDue f fd) (B : BltH mg) (mR : mg "range" = none)
    (G1 : FnOk P w K mg base CX0 3 g1 d1 ["_law_text"] spLRow) (b1 : Binds K d1 ["_law_text"] []) (k1 : PySem.W.keepIn K (.ref g1) = true) (m1 : mg "_law_read_row" = some (.ref g1))
    (G2 : FnOk P w K mg base CX0 1 g2 d2 ["_law_dials_here", "_law_rules"] spLHouse) (b2 : Binds K d2 ["_law_dials_here", "_law_rules"] []) (k2 : PySem.W.keepIn K (.ref g2) = true) (m2 : mg "_law_is_house" = some (.ref g2)) :
    FnOk P w K mg base CX0 4 f fd ["_law_text"] spLDue := by
  refine F.ok scLDue (fun vs H Q E h => ?_) (fun cdv A outer s H vs Q E hr h => ?_)
  · obtain ⟨x, rfl, _⟩ := h
    rfl
  obtain ⟨x, rfl, xl, k⟩ := h
  have hu65 : (A.deeper (PyProof.Rows.envOfC "_law_due" (defScope sLDue) s.heap.objs.size f cdv)).units + 65 < cLine := by
    have := hr.un
    omega
  have hu0 : (A.deeper (PyProof.Rows.envOfC "_law_due" (defScope sLDue) s.heap.objs.size f cdv)).units < cLine := by omega
  have hr1 : Room 1 _ := hr.mono (by decide)
  refine ⟨_, pss_cons (ps_par3 (i := 1) (j := 2) (l := 3) (by rfl) scLDue.nd rfl rfl rfl (by decide) (by decide) (by decide) rfl rfl rfl (pa_cons (pe_split (pv 0) pe_str) (pa_cons (pe_lst pa_nil) (pa_cons (pe_lst pa_nil) pa_nil))) (by rfl)) <|
    pss_cons (ps_if (pt_cmpR op_eq (pv 0) pe_str (nomark _)) (pss_one (ps_ret (pe_tup (pa_cons pe_str (pa_cons pe_int pa_nil))))) pss_nil) <|
    pss_cons (ps_for PassesOwn.never rfl (pi_range1 rfl mR (pa_cons (pe_callB call_len_seq (by rfl) B.len PySem.boot_len (pa_cons (pv 1) pa_nil)) pa_nil)) (pg_name (i := 4) scLDue.nd rfl (.inl rfl))
      (pss_cons (ps_set (i := 5) scLDue.nd rfl (.inl rfl) (pe_call G1 hr rfl m1 k1 b1 .nil pass0 (pa_cons (pe_ix ix_list (pv 1) (pv 4) (fun _ _ => rfl)) pa_nil))) <|
       pss_cons (ps_if (PW.pt (pw_or (pt_cmpR op_isN (pv 5) pe_non (nomark _)) (pw_or1 (PW.pt (pw_and (pt_cmpR op_eq (pe_callB call_len_seq (by rfl) B.len PySem.boot_len (pa_cons (pv 5) pa_nil)) pe_int (nomark _)) (pw_and1 (pt_cmpR (op_neNil hu0) (pv 3) (pe_lst pa_nil) (nomark _)))))))) (pss_one (ps_ret (pe_tup (pa_cons pe_str (pa_cons (pv 4) pa_nil))))) pss_nil) <|
       pss_one (ps_if (pt_cmpR op_eq (pe_callB call_len_seq (by rfl) B.len PySem.boot_len (pa_cons (pv 5) pa_nil)) pe_int (nomark _))
         (pss_one (ps_expr (pe_bm PySem.F.plainAttrs_list PySem.F.slot_list_append PySem.F.type_list_append mt_append (pv 2) (pa_cons (pv 5) pa_nil))))
         (pss_one (ps_expr (pe_bm PySem.F.plainAttrs_list PySem.F.slot_list_append PySem.F.type_list_append mt_append (pv 3) (pa_cons (pv 5) pa_nil))))))) <|
    pss_one (ps_ret (pe_ifExp (pt_val (pe_call G2 hr1 rfl m2 k2 b2 .nil pass0 (pa_cons (pv 2) (pa_cons (pv 3) pa_nil)))) (pe_tup (pa_cons (pe_callTy call_tuple_of (by rfl) B.tuple (by decide +kernel) (pa_cons (pv 2) pa_nil)) (pa_cons (pe_callTy call_tuple_of (by rfl) B.tuple (by decide +kernel) (pa_cons (pv 3) pa_nil)) pa_nil))) (pe_tup (pa_cons pe_str (pa_cons (pe_callB call_len_seq (by rfl) B.len PySem.boot_len (pa_cons (pv 1) pa_nil)) pa_nil))))), ?_⟩
  have sl := sizeLine_eq
  refine ⟨_, rfl, ⟨_, rfl⟩, _, _, rfl, rfl, by decide +kernel, by omega, fun W nW => ?_⟩
  have rowl : ∀ z ∈ Txt.split x "\n", z.length + 8 ≤ sizeLine := fun z hz => by have := word_len hz (by decide +kernel); omega
  have rn : (Txt.split x "\n").length ≤ x.length + 2 := PyProof.Rows.split_le x "\n"
  generalize eH : L2.upd H W _ = H1
  have s1 : Same H H1 := by rw [← eH]; exact sameNew nW _
  have hW : H1 W = some (.lst ((Txt.split x "\n").map V.str)) := by rw [← eH]; exact upd_same
  refine ⟨by show 0 ≤ sizeLine; omega, fun D nD => ⟨by show 0 ≤ sizeLine; omega, fun R nR => ⟨_, _, _, rfl, ?_⟩⟩⟩
  have R0 : H1 R = none := by
    cases e : H1 R with
    | none => rfl
    | some o =>
      have q := sameNew nD (.lst []) _ _ e
      rw [nR] at q
      cases q
  have RD : R ≠ D := fun z => by
    rw [z, upd_same] at nR
    cases nR
  have hDn : H D = none := by
    cases e : H D with
    | none => rfl
    | some o => rw [s1 _ _ e] at nD; cases nD
  have hRn : H R = none := by
    cases e : H R with
    | none => rfl
    | some o => rw [s1 _ _ e] at R0; cases R0
  have WD : W ≠ D := ne_of_none hW nD
  have WR : W ≠ R := ne_of_none hW R0
  generalize eH2 : L2.upd (L2.upd H1 D _) R _ = H2
  have s12 : Same H1 H2 := by rw [← eH2]; exact (sameNew nD _).trans (sameNew nR _)
  have hD2 : H2 D = some (.lst []) := by rw [← eH2, upd_ne RD.symm]; exact upd_same
  have hR2 : H2 R = some (.lst []) := by rw [← eH2]; exact upd_same
  have s2 := s1.trans s12
  have hW2 := s12 _ _ hW
  -- a row that is due
  have due : ∀ (j : Nat) (H' : Hp), Same H H' → readX x = .inl j → ∀ t, H' t = some (.tup [.str "row", .int j]) → Q (.ref t) H' := fun j H' s' e t ht => k (.ref t) H' s' (by
    rw [e]
    exact .tup ht (.cons (.str _) (.cons (.int _) .nil)))
  refine ⟨_, rfl, rfl, _, rfl, ?_⟩
  by_cases c0 : x = ""
  · rw [decide_eq_true (show V.str x = V.str "" by rw [c0])]
    refine iteT ⟨by show 2 ≤ sizeLine; decide, fun t nt => ?_⟩
    exact due 0 _ (s2.trans (sameNew nt _)) (by rw [c0]; exact readX_empty) t upd_same
  rw [decide_eq_false (show ¬ V.str x = V.str "" from fun z => c0 (V.str.inj z))]
  have rX := fun k => readX_inl (z := x) (k := k)
  have rI := fun ds rs => readX_inr (z := x) (ds := ds) (rs := rs)
  generalize Txt.split x "\n" = rows at rowl rn hW hW2 rX rI
  have ml : (rows.map V.str).length = rows.length := List.length_map ..
  have nn : (((rows.map V.str).length : Nat) : Int).toNat = rows.length := by rw [ml]; exact Int.toNat_natCast _
  refine iteF ⟨_, rfl, W, _, rfl, .inl (SqL.of hW2), _, rfl, by omega, by omega, for_range (lo := 0) (n := (((rows.map V.str).length : Nat) : Int).toNat) (fun i σ H5 => ∃ (v4 v5 : Option V) (as bs : List Addr) (ds : List Dw) (rs : List Rw), σ = [some (.str x), some (.ref W), some (.ref D), some (.ref R), v4, v5] ∧ DuS H H5 W D R rows i as bs ds rs)
    ⟨none, none, [], [], [], [], rfl, s2, hW2, hD2, hR2, .nil, .nil, rfl, fun _ h => (by cases h), fun _ h => (by cases h), Nat.le_refl _, Nat.le_refl _⟩ ?_ ?_⟩
  · rintro i σ H5 hi ⟨v4, v5, as, bs, ds, rs, rfl, S⟩
    have hi : i < rows.length := by omega
    obtain ⟨row, hrow⟩ : ∃ row, rows[i]? = some row := ⟨_, List.getElem?_eq_getElem hi⟩
    have hat : atI (rows.map V.str) (0 + ((i : Nat) : Int)) = some (.str row) := by
      rw [Int.zero_add]
      exact atI_nat (by rw [List.getElem?_map, hrow]; rfl)
    have hdrop := drop_at hrow
    have hrd : readH 0 [] [] rows = match readW row with
      | some (.rule r) => readH (i + 1) ds (rs ++ [r]) (rows.drop (i + 1))
      | some (.dial d) => if rs.isEmpty then readH (i + 1) (ds ++ [d]) rs (rows.drop (i + 1)) else .inl i
      | none => .inl i := by rw [S.rd, hdrop]; rfl
    have lt : (0 + ((i : Nat) : Int)) = (i : Int) := Int.zero_add _
    refine ⟨_, rfl, _, rfl, W, _, _, _, rfl, rfl, SqL.of S.hw, hat, row, rfl, rowl row (List.mem_of_getElem? hrow), fun v H6 s6 ro => ?_⟩
    have S6 := S.same s6
    have dl := S6.pd.length
    have bl' := S6.pr.length
    have ldi := S6.ld
    have lri := S6.lr
    cases er : readW row with
    | none =>
      rw [er] at ro hrd
      cases (show v = .non from ro)
      refine ⟨_, rfl, rfl, _, rfl, ?_⟩
      refine iteT (iteT ⟨_, rfl, by show 2 ≤ sizeLine; decide, fun t nt => ?_⟩)
      rw [lt]
      exact due i _ (S6.s.trans (sameNew nt _)) (rX i (by rw [hrd])) t upd_same
    | some o =>
    cases o with
    | dial d =>
      rw [er] at ro hrd
      obtain ⟨a, rfl, da⟩ := ro
      have gd : DwG d := readW_good er
      refine ⟨_, rfl, rfl, _, rfl, iteF ⟨_, rfl, a, _, rfl, .inr (SqT.of da), rfl, _, rfl, iteT ⟨_, rfl, by show 0 ≤ sizeLine; omega, fun L nL => ?_⟩⟩⟩
      have sL := sameNew nL (.lst [])
      have S7 := S6.same sL
      have da7 := da.same sL
      refine ⟨R, L, _, rfl, rfl, SqL.of S7.hr, SqL.of upd_same, _, rfl, ?_⟩
      generalize L2.upd H6 L (.lst []) = H7 at S7 da7
      cases rs with
      | nil =>
        have e0 : bs = [] := List.length_eq_zero_iff.mp bl'
        subst e0
        refine iteF ⟨_, rfl, a, _, rfl, .inr (SqT.of da7), rfl, _, rfl, iteT ⟨_, rfl, .inl ⟨rfl, _, SqL.of S7.hd⟩, _, rfl, D, _, _, rfl, rfl, S7.hd, by rw [List.length_map]; omega, ?_⟩⟩
        refine ⟨_, _, as ++ [a], [], ds ++ [d], [], rfl, ⟨fun b o e => ?_, by rw [upd_ne WD]; exact S7.hw, by rw [upd_same, List.map_append]; rfl, by rw [upd_ne RD]; exact S7.hr, ?_, .nil, by rw [hrd]; rfl, fun d' h => ?_, fun _ h => (by cases h), by rw [List.length_append]; exact Nat.succ_le_succ ldi, Nat.zero_le _⟩⟩
        · rw [upd_ne (fun z => by rw [z, hDn] at e; cases e)]
          exact S7.s _ _ e
        · exact .snoc (L2.Paired.mapP S7.pd fun b e h => h.upd S7.hd) (da7.upd S7.hd)
        · rcases List.mem_append.mp h with h | h
          · exact S7.gd d' h
          · rw [List.mem_singleton.mp h]; exact gd
      | cons r rs =>
        obtain ⟨b, bs', rfl⟩ : ∃ b bs', bs = b :: bs' := by
          cases bs with
          | nil => simp at bl'
          | cons b bs' => exact ⟨b, bs', rfl⟩
        refine iteT ⟨_, rfl, by show 2 ≤ sizeLine; decide, fun t nt => ?_⟩
        rw [lt]
        exact due i _ (S7.s.trans (sameNew nt _)) (rX i (by rw [hrd]; rfl)) t upd_same
    | rule r =>
      rw [er] at ro hrd
      obtain ⟨a, rfl, ra⟩ := ro
      have gr : RwG r := readW_good er
      obtain ⟨xs, hx, xlen⟩ := ra.tup
      have n6 : ¬ V.int ((xs.length : Nat) : Int) = V.int 6 := fun z => by have := V.int.inj z; omega
      refine ⟨_, rfl, rfl, _, rfl, iteF ⟨_, rfl, a, _, rfl, .inr (SqT.of hx), rfl, _, rfl, ?_⟩⟩
      rw [decide_eq_false n6]
      refine iteF (iteF ⟨_, rfl, a, _, rfl, .inr (SqT.of hx), rfl, _, rfl, ?_⟩)
      rw [decide_eq_false n6]
      refine iteF ⟨_, rfl, .inl ⟨rfl, _, SqL.of S6.hr⟩, _, rfl, R, _, _, rfl, rfl, S6.hr, by rw [List.length_map]; omega, ?_⟩
      refine ⟨_, _, as, bs ++ [a], ds, rs ++ [r], rfl, ⟨fun b o e => ?_, by rw [upd_ne WR]; exact S6.hw, by rw [upd_ne RD.symm]; exact S6.hd, by rw [upd_same, List.map_append]; rfl, L2.Paired.mapP S6.pd fun b e h => h.upd S6.hr, ?_, by rw [hrd], S6.gd, fun r' h => ?_, Nat.le_succ_of_le ldi, by rw [List.length_append]; exact Nat.succ_le_succ lri⟩⟩
      · rw [upd_ne (fun z => by rw [z, hRn] at e; cases e)]
        exact S6.s _ _ e
      · exact .snoc (L2.Paired.mapP S6.pr fun b e h => h.upd S6.hr) (ra.upd S6.hr)
      · rcases List.mem_append.mp h with h | h
        · exact S6.gr r' h
        · rw [List.mem_singleton.mp h]; exact gr
  · rintro σ H5 ⟨v4, v5, as, bs, ds, rs, rfl, S⟩
    rw [nn] at S
    have ei : readH 0 [] [] rows = .inr (ds, rs) := by
      rw [S.rd, List.drop_length]
      rfl
    have e1 := rI ds rs ei
    have dl := S.pd.length
    have ldi := S.ld
    refine ⟨_, rfl, _, rfl, D, R, as, bs, ds, rs, rfl, S.hd, S.hr, S.pd, S.pr, S.gd, S.gr, by omega, fun H6 s6 => ⟨_, rfl, ?_⟩⟩
    rw [houseL_eq S.gd S.gr]
    have S6 := S.same s6
    cases c : goodH ds rs with
    | true =>
      rw [c] at e1
      refine iteT ⟨_, rfl, D, _, rfl, .inl ⟨SqL.of S6.hd, fun t1 n1 => ?_⟩⟩
      have s7 := sameNew n1 (.tup (as.map V.ref))
      refine ⟨_, rfl, R, _, rfl, .inl ⟨SqL.of (s7 _ _ S6.hr), fun t2 n2 => ?_⟩⟩
      have s8 := sameNew n2 (.tup (bs.map V.ref))
      refine ⟨by show 2 ≤ sizeLine; decide, fun t3 n3 => ?_⟩
      have s9 := sameNew n3 (.tup [.ref t1, .ref t2])
      have s79 := (s7.trans s8).trans s9
      refine k (.ref t3) _ (S6.s.trans s79) ?_
      rw [e1]
      exact .tup upd_same (.cons (.tup (s9 _ _ (s8 _ _ upd_same)) (dws_tr (S6.same s79).pd)) (.cons (.tup (s9 _ _ upd_same) (rws_tr (S6.same s79).pr)) .nil))
    | false =>
      rw [c] at e1
      refine iteF ⟨_, rfl, W, _, rfl, .inl (SqL.of S6.hw), by show 2 ≤ sizeLine; decide, fun t nt => ?_⟩
      rw [ml]
      exact due rows.length _ (S6.s.trans (sameNew nt _)) e1 t upd_same
end
end Pk
end
section
set_option maxHeartbeats 1000000
/-! The law's own: told. -/
namespace Pk
open PySem PySem.Spec PyProof.Rows L2 TL
abbrev sLTold : Stmt := topH 59
def spLTold (Ps : List Addr) : Sp := fun vs H Q _ => ∃ (x : V) (d : PyData), vs = [x] ∧ Tr H x d ∧ Tabs Ps H ∧ (∀ z, d = .str z → z.length + 8 ≤ sizeLine) ∧ ∀ (v : V) (H' : Hp), GrS Ps H H' → Tr H' v (toldP (readT d)) → Q v H'
section
variable {P : Program} {w : World} {K : PySem.W.Frag} {mg : Str → Option Value} {base : Heap} {Ps : List Addr}
abbrev nLTold : List Str := ["_law_text", "_law_found", "e"]
theorem scLTold : FnScope nLTold ["_law_text"] (defScope sLTold) := ⟨rfl, rfl, rfl, by decide +kernel, rfl, by decide +kernel, by decide +kernel⟩
theorem ok_ltold {f g CT : Addr} {fd gd : FuncData} (F : Fun K "_law_told" "_law_told" sLTold f fd) (X : XfC K CT) (hno : PySem.W.findIn K (.ref CT) "row" = some none) (mN : mg "NoText" = some (.ref CT)) (te : PySem.W.exmOne K (.ref CT) (.ref CT) = some true)
    (G : FnOk P w K mg base (L2.CX P w) 7 g gd ["text"] (spRead Ps CT)) (bG : Binds K gd ["text"] []) (kG : PySem.W.keepIn K (.ref g) = true) (mG : mg "read_house" = some (.ref g)) :
    FnOk P w K mg base CX0 8 f fd ["_law_text"] (spLTold Ps) := by
  refine F.ok scLTold (fun vs H Q E h => ?_) (fun cdv A outer s H vs Q E hr h => ?_)
  · obtain ⟨x, d, rfl, _⟩ := h
    rfl
  obtain ⟨x, d, rfl, tx, tb, zl, k⟩ := h
  refine ⟨_, pss_cons (ps_set (i := 1) scLTold.nd rfl (.inl rfl) pe_non) <|
    pss_cons (ps_try_first (i := 2) (c := .ref CT) (tb := fun W => tAsg (tCallS (spRead Ps CT) (WE W) (tCons (tVar 0) tNil)) (gName 1)) (ts := fun a cls d => tAsg (tTup (tCons (tC (.str "row")) (tCons (tXf a cls d CT "row" (tVar 2)) tNil))) (gName 1)) rfl rfl scLTold.nd rfl rfl ⟨rfl, by decide, Or.inl mN⟩
      (fun W pn xe tk _ => pss_one (ps_set (i := 1) scLTold.nd rfl (.inl rfl) (by exact (pe_callS G hr rfl mG kG bG (fun σ => passAt tk σ) (by exact (pa_cons (pv 0) pa_nil))))))
      (fun a oe cls d pn hz hf => pss_one (ps_set (i := 1) scLTold.nd rfl (Or.inl rfl) (by exact (pe_tup (pa_cons pe_str (pa_cons (pe_xf X hno hz hf (pv 2)) pa_nil))))))) <|
    pss_one (ps_ret (pv 1)), ?_⟩
  refine ⟨_, rfl, x, d, rfl, tx, tb, zl, fun ds rs e t H1 g1 tr => ?_, fun j e dx H1 g1 hx => ?_⟩
  · exact ⟨_, rfl, k _ H1 g1 (by rw [e]; exact tr)⟩
  · refine ⟨te, fun a na => ?_⟩
    refine ⟨_, rfl, rfl, rfl, dx, _, .int j, rfl, hx, rfl, by show 2 ≤ sizeLine; decide, fun T hT => ⟨_, rfl, k _ _ (g1.trans (GrS.same g1.1 (sameNew hT _))) ?_⟩⟩
    rw [e]
    exact .tup upd_same (.cons (.str _) (.cons (.int _) .nil))
end
end Pk
end
section
set_option maxHeartbeats 1000000
/-! text * int. -/
namespace Pk
open PySem PySem.Spec PyProof.Rows L2
theorem op_mulS {X : Cx} : OpR X (binaryOp .Mult) (fun x y H Q => ∃ z n, x = .str z ∧ y = .int n ∧ MulOk z n ∧ Q (.str (Txt.mul z n)) H) := by
  intro pins s σ H x y v u Q I rx ry h
  obtain ⟨z, n, rfl, rfl, hz, q⟩ := h
  obtain ⟨t, rfl⟩ := rx
  obtain ⟨t', rfl⟩ := ry
  exact PySem.SB.mul hz fun t' tk => ⟨.str (Txt.mul z n), H, I.tok _, ⟨_, rfl⟩, q⟩
end Pk
end
section
set_option maxHeartbeats 4000000
/-! The law's own: a text with one thing otherwise. -/
namespace Pk
open PySem PySem.Spec PyProof.Rows L2 TL
abbrev sLBent : Stmt := topH 60
theorem joinL_le (s : List Nat) : ∀ ws : List (List Nat), (joinL s ws).length ≤ (ws.map (·.length)).sum + ws.length * s.length
  | [] => by simp [joinL]
  | [a] => by simp [joinL]
  | a :: b :: r => by
    have ih := joinL_le s (b :: r)
    rw [joinL]
    simp only [List.length_append, List.map_cons, List.sum_cons, List.length_cons] at ih ⊢
    rw [Nat.add_mul, Nat.add_mul] at *
    omega
theorem join_le (y : Str) (ws : List Str) : (Txt.join y ws).length ≤ (ws.map (·.length)).sum + ws.length * y.length := by
  have h := joinL_le (tl y) (ws.map tl)
  rw [join_eq, ← len_cps]
  show (tl (Str.join y ws)).length ≤ _
  rw [tl_join]
  rw [List.map_map, List.length_map] at h
  have e : (ws.map ((fun x => x.length) ∘ tl)) = ws.map (·.length) := List.map_congr_left fun x _ => len_cps x
  rw [e] at h
  have e2 : (tl y).length = y.length := len_cps y
  rw [e2] at h
  exact h
/-- signs and ends of texts -/
def wt (ws : List Str) : Nat := (ws.map (·.length)).sum + ws.length
theorem wt_app (a b : List Str) : wt (a ++ b) = wt a + wt b := by
  unfold wt
  rw [List.map_append, List.sum_append, List.length_append]
  omega
theorem wt_cons (x : Str) (a : List Str) : wt (x :: a) = x.length + 1 + wt a := by
  unfold wt
  rw [List.map_cons, List.sum_cons, List.length_cons]
  omega
theorem wt_nil : wt [] = 0 := rfl
theorem wt_take (a : List Str) (i : Nat) : wt (a.take i) ≤ wt a := by
  have h := wt_app (a.take i) (a.drop i)
  rw [List.take_append_drop] at h
  omega
theorem wt_drop (a : List Str) (i : Nat) : wt (a.drop i) ≤ wt a := by
  have h := wt_app (a.take i) (a.drop i)
  rw [List.take_append_drop] at h
  omega
theorem wt_rev : ∀ a : List Str, wt a.reverse = wt a
  | [] => rfl
  | x :: a => by
    rw [List.reverse_cons, wt_app, wt_rev a, wt_cons, wt_cons, wt_nil]
    omega
theorem wt_len (a : List Str) : a.length ≤ wt a := Nat.le_add_left _ _
theorem wt_mem {a : List Str} {x : Str} (h : x ∈ a) : x.length + 1 ≤ wt a := by
  induction a with
  | nil => cases h
  | cons y a ih =>
    rw [wt_cons]
    rcases List.mem_cons.mp h with rfl | h
    · omega
    · have := ih h
      omega
theorem wt_split (x y : Str) (h : 1 ≤ y.length) : wt (Txt.split x y) ≤ x.length + 1 := PyProof.Rows.split_weight x y h
def cutT (a : List Str) (lo hi : Option Int) : List Str := (a.drop (HT.sIx a.length 0 lo)).take (HT.sIx a.length a.length hi - HT.sIx a.length 0 lo)
theorem cutV_map (a : List Str) (lo hi : Option Int) : cutV (a.map V.str) lo hi = (cutT a lo hi).map V.str := by
  unfold cutV cutT
  rw [List.length_map, ← List.map_drop, ← List.map_take]
theorem wt_cut (a : List Str) (lo hi : Option Int) : wt (cutT a lo hi) ≤ wt a := Nat.le_trans (wt_take _ _) (wt_drop _ _)
theorem cutT_len (a : List Str) (lo hi : Option Int) : (cutT a lo hi).length ≤ a.length := by
  unfold cutT
  rw [List.length_take, List.length_drop]
  omega
/-- at q: a list of texts, at most n signs and ends -/
def LT (H : Hp) (q : Addr) (n : Nat) : Prop := ∃ ys : List Str, H q = some (.lst (ys.map V.str)) ∧ wt ys ≤ n
theorem LT.same {H H' : Hp} {q : Addr} {n : Nat} (h : LT H q n) (s : Same H H') : LT H' q n := let ⟨ys, a, b⟩ := h; ⟨ys, s _ _ a, b⟩
theorem LT.sb {p : Addr} {H H' : Hp} {q : Addr} {n : Nat} (h : LT H q n) (s : Sb p H H') (hq : q ≠ p) : LT H' q n := let ⟨ys, a, b⟩ := h; ⟨ys, s.to hq a, b⟩
theorem mul60 : MulOk "9" 60 := ⟨by decide, fun _ _ => by decide +kernel, fun _ _ => by decide +kernel⟩
theorem mul61 : MulOk "9" 61 := ⟨by decide, fun _ _ => by decide +kernel, fun _ _ => by decide +kernel⟩
def okF (xs : List V) : Prop := ∀ v ∈ xs, ∃ z, v = .str z ∧ z.length ≤ 61
/-- ahead of the last statement: what is joined stands -/
def tE15 (p : Addr) (x : Str) : TS := fun D σ H => ∃ (v2 v3 v4 v5 v6 v9 v10 v12 v13 : Option V) (A1 A2 C : Addr) (a b ys : List Str) (N : Nat), σ = [some (.ref p), some (.str x), v2, v3, v4, v5, v6, some (.ref A1), some (.ref A2), v9, v10, some (.ref C), v12, v13] ∧
  H A1 = some (.lst (a.map V.str)) ∧ H A2 = some (.lst (b.map V.str)) ∧ H C = some (.lst (ys.map V.str)) ∧ wt a + (wt ys + 1) + wt b ≤ N ∧ N ≤ 16700000 ∧ ∀ (y : Str) (H' : Hp), Same H H' → y.length ≤ N → D.rt (.str y) H'
/-- ahead of the picking of words -/
def tE14 (p : Addr) (x : Str) : TS := fun D σ H => ∃ (v2 v3 v4 v5 v6 v9 : Option V) (c A1 A2 U LL C1 C2 : Addr) (a b ws : List Str) (fr : Str) (j J N : Nat) (m : Int), σ = [some (.ref p), some (.str x), v2, v3, v4, v5, v6, some (.ref A1), some (.ref A2), v9, some (.ref LL), some (.ref U), some (.int (j : Nat)), some (.str fr)] ∧
  H A1 = some (.lst (a.map V.str)) ∧ H A2 = some (.lst (b.map V.str)) ∧ H U = some (.lst (ws.map V.str)) ∧ H LL = some (.lst [V.ref C1, V.ref C2]) ∧ LT H C1 J ∧ LT H C2 J ∧ A1 ≠ p ∧ A2 ≠ p ∧ U ≠ p ∧ C1 ≠ p ∧ C2 ≠ p ∧ j < ws.length ∧ fr.length ≤ 61 ∧ wt ws + 62 ≤ J ∧
  wt a + (J + 1) + wt b ≤ N ∧ N ≤ 16700000 ∧ PenC H p c m ∧ m ≤ 500000000 ∧ ∀ (y : Str) (H' : Hp), PenC H' p c (m + 1) → Sb p H H' → y.length ≤ N → D.rt (.str y) H'
/-- ahead of the lot -/
def tE13 (p : Addr) (x : Str) : TS := fun D σ H => ∃ (v2 v3 v4 v5 v6 v9 v10 : Option V) (c A1 A2 U : Addr) (a b ws : List Str) (fr : Str) (j J N : Nat) (m : Int), σ = [some (.ref p), some (.str x), v2, v3, v4, v5, v6, some (.ref A1), some (.ref A2), v9, v10, some (.ref U), some (.int (j : Nat)), some (.str fr)] ∧
  H A1 = some (.lst (a.map V.str)) ∧ H A2 = some (.lst (b.map V.str)) ∧ H U = some (.lst (ws.map V.str)) ∧ A1 ≠ p ∧ A2 ≠ p ∧ U ≠ p ∧ j < ws.length ∧ fr.length ≤ 61 ∧ 2 * wt ws + 62 ≤ J ∧
  wt a + (J + 1) + wt b ≤ N ∧ N ≤ 16700000 ∧ PenC H p c m ∧ m ≤ 500000000 ∧ ∀ (y : Str) (H' : Hp), PenC H' p c (m + 1) → Sb p H H' → y.length ≤ N → D.rt (.str y) H'
/-- ahead of the words -/
def tE8 (p : Addr) (x : Str) : TS := fun D σ H => ∃ (v2 v3 v4 v9 v10 v11 v12 v13 : Option V) (c W A1 A2 : Addr) (rows : List Str) (i : Nat) (m : Int), σ = [some (.ref p), some (.str x), v2, v3, v4, some (.ref W), some (.int (i : Nat)), some (.ref A1), some (.ref A2), v9, v10, v11, v12, v13] ∧
  H W = some (.lst (rows.map V.str)) ∧ H A1 = some (.lst ((rows.take i).map V.str)) ∧ H A2 = some (.lst ((rows.drop (i + 1)).map V.str)) ∧ W ≠ p ∧ A1 ≠ p ∧ A2 ≠ p ∧ i < rows.length ∧ wt rows ≤ x.length + 1 ∧ x.length ≤ 5430000 ∧ PenC H p c m ∧ m ≤ 450000000 ∧ ∀ (y : Str) (H' : Hp), PenC H' p c (m + 10) → Sb p H H' → y.length ≤ 3 * x.length + 100 → D.rt (.str y) H'
def spLBent : Sp := fun vs H Q _ => ∃ (p c : Addr) (n : Int) (x : Str), vs = [.ref p, .str x] ∧ PenC H p c n ∧ n ≤ 400000000 ∧ x.length ≤ 5430000 ∧
  ∀ (y : Str) (H' : Hp), PenC H' p c (n + 20) → Sb p H H' → y.length ≤ 3 * x.length + 100 → Q (.str y) H'
abbrev nLBent : List Str := ["_law_pen_here", "_law_text", "_law_at", "_law_kind", "_law_sign", "_law_rows", "_law_spot", "_law_first", "_law_last", "_law_some", "_law_lot", "_law_words", "_law_place", "_law_fresh"]
theorem scLBent : FnScope nLBent ["_law_pen_here", "_law_text"] (defScope sLBent) := ⟨rfl, rfl, rfl, by decide +kernel, rfl, by decide +kernel, by decide +kernel⟩
section
variable {P : Program} {w : World} {K : PySem.W.Frag} {mg : Str → Option Value} {base : Heap}
theorem ok_lbent {f g g2 : Addr} {fd gd gd2 : FuncData} (F : Fun K "_law_bent" "_law_bent" sLBent f fd) (B : Blt mg)
    (G : FnOk P w K mg base CX0 1 g gd ["_law_pen_here", "_law_many"] spDrawC) (bG : Binds K gd ["_law_pen_here", "_law_many"] []) (kG : PySem.W.keepIn K (.ref g) = true) (mG : mg "_law_draw" = some (.ref g))
    (G2 : FnOk P w K mg base CX0 2 g2 gd2 ["_law_pen_here", "_law_lot"] spPick) (bG2 : Binds K gd2 ["_law_pen_here", "_law_lot"] []) (kG2 : PySem.W.keepIn K (.ref g2) = true) (mG2 : mg "_law_pick" = some (.ref g2)) :
    FnOk P w K mg base CX0 3 f fd ["_law_pen_here", "_law_text"] spLBent := by
  refine F.ok scLBent (fun vs H Q E h => ?_) (fun cdv A outer s H vs Q E hr h => ?_)
  · obtain ⟨p, c, n, x, rfl, _⟩ := h
    rfl
  obtain ⟨p, c, n, x, rfl, pen, hn, xl, k⟩ := h
  have hr1 : Room 1 _ := hr.mono (by decide)
  refine ⟨_, pss_cons (ps_par (i := 2) (j := 3) (by rfl) scLBent.nd rfl rfl (by decide) rfl rfl (pa_cons (pe_call G hr1 rfl mG kG bG .nil pass0 (pa_cons (pv 0) (pa_cons (pe_op op_add (pe_callB call_len_str (by rfl) B.len PySem.boot_len (pa_cons (pv 1) pa_nil)) pe_int) pa_nil))) (pa_cons (pe_call G hr1 rfl mG kG bG .nil pass0 (pa_cons (pv 0) (pa_cons pe_int pa_nil))) pa_nil)) (by rfl)) <|
    pss_cons (ps_set (i := 4) scLBent.nd rfl (.inl rfl) (pe_call G2 hr rfl mG2 kG2 bG2 .nil pass0 (pa_cons (pv 0) (pa_cons (pe_lst (pa_cons pe_str <| pa_cons pe_str <| pa_cons pe_str <| pa_cons pe_str <| pa_cons pe_str <| pa_cons pe_str <| pa_cons pe_str <| pa_cons pe_str <| pa_cons pe_str <| pa_cons pe_str <| pa_cons pe_str pa_nil)) pa_nil)))) <|
    pss_cons (ps_if (pt_cmpR op_lt (pv 3) pe_int (nomark _)) (pss_one (ps_ret (pe_op op_add_str (pe_op op_add_str (pe_slice sl_str (pv 1) po_none (po_some (pv 2))) (pe_ix ix_list (pe_lst (pa_cons (pv 4) (pa_cons pe_str (pa_cons (pv 4) pa_nil)))) (pv 3) (fun _ _ => rfl))) (pe_slice sl_str (pv 1) (po_some (pe_op op_add (pv 2) (pe_callTy call_int1 (by rfl) B.int (by decide +kernel) (pa_cons (pe_cmpR op_gt (pv 3) pe_int (nomark _)) pa_nil)))) po_none)))) pss_nil) <|
    pss_cons (ps_set (i := 5) scLBent.nd rfl (.inl rfl) (pe_split (pv 1) pe_str)) <|
    pss_cons (ps_set (i := 6) scLBent.nd rfl (.inl rfl) (pe_call G hr1 rfl mG kG bG .nil pass0 (pa_cons (pv 0) (pa_cons (pe_callB call_len_seq (by rfl) B.len PySem.boot_len (pa_cons (pv 5) pa_nil)) pa_nil)))) <|
    pss_cons (ps_par (i := 7) (j := 8) (by rfl) scLBent.nd rfl rfl (by decide) rfl rfl (pa_cons (pe_slice sl_list (pv 5) po_none (po_some (pv 6))) (pa_cons (pe_slice sl_list (pv 5) (po_some (pe_op op_add (pv 6) pe_int)) po_none) pa_nil)) (by rfl)) <|
    pss_cons (ps_if (pt_cmpR op_eq (pv 3) pe_int (nomark _))
      (pss_cons (ps_set (i := 9) scLBent.nd rfl (.inl rfl) (pe_lst (pa_cons pe_str <| pa_cons pe_str <| pa_cons pe_str <| pa_cons pe_str <| pa_cons pe_str pa_nil))) <|
       pss_cons (ps_set (i := 9) scLBent.nd rfl (.inl rfl) (pe_op op_cat (pv 9) (pe_lst (pa_cons pe_str <| pa_cons pe_str <| pa_cons pe_str pa_nil)))) <|
       pss_cons (ps_set (i := 10) scLBent.nd rfl (.inl rfl) (pe_lst (pa_cons (pe_op op_cat (pv 7) (pv 8)) <| pa_cons (pe_op op_cat (pe_op op_cat (pv 7) (pe_slice sl_list (pv 5) (po_some (pv 6)) (po_some (pe_op op_add (pv 6) pe_int)))) (pe_slice sl_list (pv 5) (po_some (pv 6)) po_none)) <| pa_cons (pe_op op_cat (pe_op op_cat (pv 7) (pe_lst (pa_cons (pe_call G2 hr rfl mG2 kG2 bG2 .nil pass0 (pa_cons (pv 0) (pa_cons (pv 9) pa_nil))) pa_nil))) (pe_slice sl_list (pv 5) (po_some (pv 6)) po_none)) pa_nil))) <|
       pss_one (ps_ret (pe_join pe_str (pe_call G2 hr rfl mG2 kG2 bG2 .nil pass0 (pa_cons (pv 0) (pa_cons (pe_op op_cat (pv 10) (pe_lst (pa_cons (pe_op op_cat (pe_op op_cat (pv 7) (pe_revL (pe_slice sl_list (pv 5) (po_some (pv 6)) (po_some (pe_op op_add (pv 6) pe_int))))) (pe_slice sl_list (pv 5) (po_some (pe_op op_add (pv 6) pe_int)) po_none)) pa_nil))) pa_nil)))))) pss_nil) <|
    pssW (u := tE8 p x) (pss_cons (ps_set (i := 11) scLBent.nd rfl (.inl rfl) (pe_split (pe_ix ix_list (pv 5) (pv 6) (fun _ _ => rfl)) pe_str)) <|
    pss_cons (ps_set (i := 12) scLBent.nd rfl (.inl rfl) (pe_call G hr1 rfl mG kG bG .nil pass0 (pa_cons (pv 0) (pa_cons (pe_callB call_len_seq (by rfl) B.len PySem.boot_len (pa_cons (pv 11) pa_nil)) pa_nil)))) <|
    pss_cons (ps_set (i := 9) scLBent.nd rfl (.inl rfl) (pe_lst (pa_cons pe_str <| pa_cons pe_str <| pa_cons pe_str <| pa_cons pe_str <| pa_cons pe_str <| pa_cons pe_str <| pa_cons (pe_callTy call_str_int (by rfl) B.str (by decide +kernel) (pa_cons (pe_op op_add (pe_op op_pow pe_int pe_int) pe_int) pa_nil)) <| pa_cons (pe_callTy call_str_int (by rfl) B.str (by decide +kernel) (pa_cons (pe_op op_pow pe_int pe_int) pa_nil)) <| pa_cons (pe_callTy call_str_int (by rfl) B.str (by decide +kernel) (pa_cons (pe_op op_add (pe_op op_pow pe_int pe_int) pe_int) pa_nil)) pa_nil))) <|
    pss_cons (ps_set (i := 9) scLBent.nd rfl (.inl rfl) (pe_op op_cat (pv 9) (pe_lst (pa_cons (pe_op op_mulS pe_str pe_int) <| pa_cons (pe_op op_mulS pe_str pe_int) <| pa_cons pe_str <| pa_cons pe_str <| pa_cons pe_str <| pa_cons pe_str <| pa_cons pe_str <| pa_cons pe_str <| pa_cons pe_str <| pa_cons pe_str <| pa_cons pe_str pa_nil)))) <|
    pss_cons (ps_set (i := 13) scLBent.nd rfl (.inl rfl) (pe_call G2 hr rfl mG2 kG2 bG2 .nil pass0 (pa_cons (pv 0) (pa_cons (pe_op op_cat (pv 9) (pe_lst (pa_cons pe_str <| pa_cons pe_str pa_nil))) pa_nil)))) <|
    pssW (u := tE13 p x) (pss_cons (ps_set (i := 10) scLBent.nd rfl (.inl rfl) (pe_lst (pa_cons (pe_op op_cat (pe_slice sl_list (pv 11) po_none (po_some (pv 12))) (pe_slice sl_list (pv 11) (po_some (pe_op op_add (pv 12) pe_int)) po_none)) <| pa_cons (pe_op op_cat (pe_op op_cat (pe_slice sl_list (pv 11) po_none (po_some (pv 12))) (pe_slice sl_list (pv 11) (po_some (pv 12)) (po_some (pe_op op_add (pv 12) pe_int)))) (pe_slice sl_list (pv 11) (po_some (pv 12)) po_none)) pa_nil))) <|
    pssW (u := tE14 p x) (pss_cons (ps_set (i := 11) scLBent.nd rfl (.inl rfl) (pe_call G2 hr rfl mG2 kG2 bG2 .nil pass0 (pa_cons (pv 0) (pa_cons (pe_op op_cat (pv 10) (pe_op op_rep (pe_lst (pa_cons (pe_op op_cat (pe_op op_cat (pe_slice sl_list (pv 11) po_none (po_some (pv 12))) (pe_lst (pa_cons (pv 13) pa_nil))) (pe_slice sl_list (pv 11) (po_some (pe_op op_add (pv 12) pe_int)) po_none)) pa_nil)) pe_int)) pa_nil)))) <|
    pssW (u := tE15 p x) (pss_one (ps_ret (pe_join pe_str (pe_op op_cat (pe_op op_cat (pv 7) (pe_lst (pa_cons (pe_join pe_str (pv 11)) pa_nil))) (pv 8))))) ?t15) ?t14) ?t13) ?t8, ?_⟩
  case t15 =>
    rintro D σ H ⟨v2, v3, v4, v5, v6, v9, v10, v12, v13, A1, A2, C, a, b, ys, N, rfl, hA, hB, hC, hw, hN, k⟩
    have jl := join_le " " ys
    have e1' : (" " : Str).length = 1 := by decide +kernel
    have e2' : ("\n" : Str).length = 1 := by decide +kernel
    have uw : wt ys = (ys.map (·.length)).sum + ys.length := rfl
    rw [e1'] at jl
    have sl := sizeLine_eq
    have la := wt_len a
    have lb := wt_len b
    refine ⟨⟨_, rfl⟩, _, rfl, ⟨_, rfl⟩, _, rfl, _, C, _, rfl, rfl, .inl (SqL.of hC), by rw [e1']; omega, ?_⟩
    refine ⟨by show 1 ≤ sizeLine; omega, fun N1 nN1 => ?_⟩
    generalize eN1 : L2.upd H N1 _ = Hg1
    have z1 : Same H Hg1 := by rw [← eN1]; exact sameNew nN1 _
    have hN1 : Hg1 N1 = some (.lst ([Txt.join " " ys].map V.str)) := by rw [← eN1]; exact upd_same
    clear eN1
    refine ⟨A1, N1, _, _, rfl, rfl, z1 _ _ hA, hN1, by simp only [List.length_map, List.length_singleton]; omega, fun N2 nN2 => ?_⟩
    generalize eN2 : L2.upd Hg1 N2 _ = Hg2
    have z2 : Same Hg1 Hg2 := by rw [← eN2]; exact sameNew nN2 _
    have hN2 : Hg2 N2 = some (.lst ((a ++ [Txt.join " " ys]).map V.str)) := by rw [← eN2, List.map_append]; exact upd_same
    clear eN2
    refine ⟨_, rfl, N2, A2, _, _, rfl, rfl, hN2, z2 _ _ (z1 _ _ hB), by simp only [List.length_map, List.length_append, List.length_singleton]; omega, fun N3 nN3 => ?_⟩
    generalize eN3 : L2.upd Hg2 N3 _ = Hg3
    have z3 : Same Hg2 Hg3 := by rw [← eN3]; exact sameNew nN3 _
    have hN3 : Hg3 N3 = some (.lst (((a ++ [Txt.join " " ys]) ++ b).map V.str)) := by rw [← eN3]; simp only [List.map_append]; exact upd_same
    clear eN3
    have zz := (z1.trans z2).trans z3
    have jw := join_le "\n" ((a ++ [Txt.join " " ys]) ++ b)
    have uw2 : wt ((a ++ [Txt.join " " ys]) ++ b) = (((a ++ [Txt.join " " ys]) ++ b).map (·.length)).sum + ((a ++ [Txt.join " " ys]) ++ b).length := rfl
    have tw : wt ((a ++ [Txt.join " " ys]) ++ b) ≤ N := by
      rw [wt_app, wt_app, wt_cons, wt_nil]
      omega
    rw [e2'] at jw
    refine ⟨_, N3, _, rfl, rfl, .inl (SqL.of hN3), by rw [e2']; omega, ?_⟩
    exact k _ Hg3 zz (by omega)
  case t14 =>
    rintro D σ Hc ⟨v2, v3, v4, v5, v6, v9, c, A1, A2, U, LL, C1, C2, a, b, ws, fr, j, J, N, m, rfl, hAc, hBc, hUc, hLL, lC1, lC2, A1p, A2p, Up, C1p, C2p, f1, hfr, wJ, wN, hN, penc, hm, k⟩
    have sl := sizeLine_eq
    have mlw : (ws.map V.str).length = ws.length := List.length_map ..
    have wlen := wt_len ws
    have f1' : cutV (ws.map V.str) none (some (j : Int)) = (ws.take j).map V.str := by rw [cut_to (by rw [mlw]; omega), List.map_take]
    have f2' : cutV (ws.map V.str) (some (j : Int)) none = (ws.drop j).map V.str := by rw [cut_from (by rw [mlw]; omega), List.map_drop]
    have f3' : cutV (ws.map V.str) (some ((j : Int) + 1)) none = (ws.drop (j + 1)).map V.str := by
      rw [show ((j : Int) + 1) = ((j + 1 : Nat) : Int) by omega, cut_from (by rw [mlw]; omega), List.map_drop]
    have g1 := wt_take ws j
    have g2 := wt_drop ws (j + 1)
    have g3 := wt_drop ws j
    have g4 : wt (ws.take j) + wt (ws.drop j) = wt ws := by rw [← wt_app, List.take_append_drop]
    have g5 : wt (ws.drop (j + 1)) ≤ wt (ws.drop j) := by
      have := wt_drop (ws.drop j) 1
      rw [List.drop_drop] at this
      exact this
    have cl := cutT_len ws (some (j : Int)) (some ((j : Int) + 1))
    have cw := wt_cut ws (some (j : Int)) (some ((j : Int) + 1))
    refine ⟨_, rfl, _, rfl, _, rfl, _, rfl, j, rfl, U, _, rfl, SqL.of (hUc), fun D6 nD6 => ?_⟩
    generalize eD6 : L2.upd Hc D6 _ = He2
    have y1 : Same Hc He2 := by rw [← eD6]; exact sameNew nD6 _
    have hD6 : He2 D6 = some (.lst ((ws.take j).map V.str)) := by rw [← eD6, ← f1']; exact upd_same
    clear eD6
    refine ⟨_, rfl, by show 1 ≤ sizeLine; omega, fun E1 nE1 => ?_⟩
    generalize eE1 : L2.upd He2 E1 _ = He3
    have y2 : Same He2 He3 := by rw [← eE1]; exact sameNew nE1 _
    have hE1 : He3 E1 = some (.lst ([fr].map V.str)) := by rw [← eE1]; exact upd_same
    clear eE1
    refine ⟨D6, E1, _, _, rfl, rfl, y2 _ _ hD6, hE1, by simp only [List.length_map, List.length_take, List.length_singleton]; omega, fun C3a nC3a => ?_⟩
    generalize eC3a : L2.upd He3 C3a _ = He4
    have y3 : Same He3 He4 := by rw [← eC3a]; exact sameNew nC3a _
    have hC3a : He4 C3a = some (.lst ((ws.take j ++ [fr]).map V.str)) := by rw [← eC3a, List.map_append]; exact upd_same
    clear eC3a
    have y13 := (y1.trans y2).trans y3
    have w20 := y13
    refine ⟨_, rfl, _, rfl, _, _, rfl, rfl, _, rfl, U, _, rfl, SqL.of (w20 _ _ hUc), fun D7 nD7 => ?_⟩
    generalize eD7 : L2.upd He4 D7 _ = He5
    have y4 : Same He4 He5 := by rw [← eD7]; exact sameNew nD7 _
    have hD7 : He5 D7 = some (.lst ((ws.drop (j + 1)).map V.str)) := by rw [← eD7, ← f3']; exact upd_same
    clear eD7
    refine ⟨C3a, D7, _, _, rfl, rfl, y4 _ _ hC3a, hD7, by simp only [List.length_map, List.length_append, List.length_take, List.length_drop, List.length_singleton]; omega, fun C3 nC3 => ?_⟩
    have w21 := w20.trans y4
    have C3p := (penc.same w21).newp nC3
    generalize eC3 : L2.upd He5 C3 _ = He6
    have y5 : Same He5 He6 := by rw [← eC3]; exact sameNew nC3 _
    have lC3 : LT He6 C3 (J) := ⟨(ws.take j ++ [fr]) ++ ws.drop (j + 1), by rw [← eC3]; simp only [List.map_append]; exact upd_same, by rw [wt_app, wt_app, wt_cons, wt_nil]; omega⟩
    clear eC3
    have w22 := w21.trans y5
    have y15 := (y13.trans y4).trans y5
    refine ⟨by show 1 ≤ sizeLine; omega, fun M1 nM1 => ?_⟩
    generalize eM1 : L2.upd He6 M1 _ = He7
    have y6 : Same He6 He7 := by rw [← eM1]; exact sameNew nM1 _
    have hM1 : He7 M1 = some (.lst [V.ref C3]) := by rw [← eM1]; exact upd_same
    clear eM1
    refine ⟨M1, 2, _, rfl, rfl, hM1, by decide, by decide, by show 1 * 2 ≤ sizeLine; omega, fun M2 nM2 => ?_⟩
    generalize eM2 : L2.upd He7 M2 _ = He8
    have y7 : Same He7 He8 := by rw [← eM2]; exact sameNew nM2 _
    have hM2 : He8 M2 = some (.lst [V.ref C3, V.ref C3]) := by rw [← eM2]; exact upd_same
    clear eM2
    have y57 := y6.trans y7
    refine ⟨LL, M2, _, _, rfl, rfl, (y15.trans y57) _ _ hLL, hM2, by show 2 + 2 ≤ sizeLine; omega, fun M3 nM3 => ?_⟩
    have w23 := w22.trans y57
    have M3p := (penc.same w23).newp nM3
    generalize eM3 : L2.upd He8 M3 _ = He9
    have y8 : Same He8 He9 := by rw [← eM3]; exact sameNew nM3 _
    have hM3 : He9 M3 = some (.lst [V.ref C1, V.ref C2, V.ref C3, V.ref C3]) := by rw [← eM3]; exact upd_same
    clear eM3
    have w24 := w23.trans y8
    have y9 := y57.trans y8
    have lC3 := lC3.same y9
    have lC2 := lC2.same (y15.trans y9)
    have lC1 := lC1.same (y15.trans y9)
    refine .inl ⟨p, c, M3, m, _, rfl, penc.same w24, by omega, M3p, .inl hM3, by simp, by simp, fun xx Hf hxx penf sbf => ?_⟩
    have pick : ∃ C, xx = .ref C ∧ LT Hf C (J) := by
      simp only [List.mem_cons, List.not_mem_nil, or_false] at hxx
      rcases hxx with rfl | rfl | rfl | rfl
      · exact ⟨C1, rfl, lC1.sb sbf C1p⟩
      · exact ⟨C2, rfl, lC2.sb sbf C2p⟩
      · exact ⟨C3, rfl, lC3.sb sbf C3p⟩
      · exact ⟨C3, rfl, lC3.sb sbf C3p⟩
    obtain ⟨C, rfl, ys, hC, hw⟩ := pick
    have hAf := sbf.to A1p (w24 _ _ hAc)
    have hBf := sbf.to A2p (w24 _ _ hBc)
    exact ⟨_, _, _, _, _, _, _, _, _, A1, A2, C, a, b, ys, N, rfl, hAf, hBf, hC, by omega, hN, fun y H' s' hy => k y H' (penf.same s') (((Sb.same w24).trans sbf).trans (Sb.same s')) hy⟩
  case t13 =>
    rintro D σ Hc ⟨v2, v3, v4, v5, v6, v9, v10, c, A1, A2, U, a, b, ws, fr, j, J, N, m, rfl, hAc, hBc, hUc, A1p, A2p, Up, f1, hfr, wJ, wN, hN, penc, hm, k⟩
    have sl := sizeLine_eq
    have mlw : (ws.map V.str).length = ws.length := List.length_map ..
    have wlen := wt_len ws
    have f1' : cutV (ws.map V.str) none (some (j : Int)) = (ws.take j).map V.str := by rw [cut_to (by rw [mlw]; omega), List.map_take]
    have f2' : cutV (ws.map V.str) (some (j : Int)) none = (ws.drop j).map V.str := by rw [cut_from (by rw [mlw]; omega), List.map_drop]
    have f3' : cutV (ws.map V.str) (some ((j : Int) + 1)) none = (ws.drop (j + 1)).map V.str := by
      rw [show ((j : Int) + 1) = ((j + 1 : Nat) : Int) by omega, cut_from (by rw [mlw]; omega), List.map_drop]
    have g1 := wt_take ws j
    have g2 := wt_drop ws (j + 1)
    have g3 := wt_drop ws j
    have g4 : wt (ws.take j) + wt (ws.drop j) = wt ws := by rw [← wt_app, List.take_append_drop]
    have g5 : wt (ws.drop (j + 1)) ≤ wt (ws.drop j) := by
      have := wt_drop (ws.drop j) 1
      rw [List.drop_drop] at this
      exact this
    have cl := cutT_len ws (some (j : Int)) (some ((j : Int) + 1))
    have cw := wt_cut ws (some (j : Int)) (some ((j : Int) + 1))
    -- the lot
    refine ⟨_, rfl, _, rfl, j, rfl, U, _, rfl, SqL.of hUc, fun D1 nD1 => ?_⟩
    generalize eD1 : L2.upd Hc D1 _ = Hd1
    have w1 : Same Hc Hd1 := by rw [← eD1]; exact sameNew nD1 _
    have hD1 : Hd1 D1 = some (.lst ((ws.take j).map V.str)) := by rw [← eD1, ← f1']; exact upd_same
    clear eD1
    refine ⟨_, rfl, _, rfl, _, _, rfl, rfl, _, rfl, U, _, rfl, SqL.of (w1 _ _ hUc), fun D2 nD2 => ?_⟩
    generalize eD2 : L2.upd Hd1 D2 _ = Hd2
    have w2 : Same Hd1 Hd2 := by rw [← eD2]; exact sameNew nD2 _
    have hD2 : Hd2 D2 = some (.lst ((ws.drop (j + 1)).map V.str)) := by rw [← eD2, ← f3']; exact upd_same
    clear eD2
    refine ⟨D1, D2, _, _, rfl, rfl, w2 _ _ hD1, hD2, by simp only [List.length_map, List.length_take, List.length_drop]; omega, fun C1 nC1 => ?_⟩
    have C1p := ((penc.same w1).same w2).newp nC1
    generalize eC1 : L2.upd Hd2 C1 _ = Hd3
    have w3 : Same Hd2 Hd3 := by rw [← eC1]; exact sameNew nC1 _
    have lC1 : LT Hd3 C1 (J) := ⟨ws.take j ++ ws.drop (j + 1), by rw [← eC1, List.map_append]; exact upd_same, by rw [wt_app]; omega⟩
    clear eC1
    have w13 := (w1.trans w2).trans w3
    refine ⟨_, rfl, _, rfl, j, rfl, U, _, rfl, SqL.of (w13 _ _ hUc), fun D3 nD3 => ?_⟩
    generalize eD3 : L2.upd Hd3 D3 _ = Hd4
    have w4 : Same Hd3 Hd4 := by rw [← eD3]; exact sameNew nD3 _
    have hD3 : Hd4 D3 = some (.lst ((ws.take j).map V.str)) := by rw [← eD3, ← f1']; exact upd_same
    clear eD3
    have w14 := w13.trans w4
    refine ⟨_, rfl, _, rfl, j, rfl, _, rfl, _, _, rfl, rfl, _, rfl, U, _, rfl, SqL.of (w14 _ _ hUc), fun D4 nD4 => ?_⟩
    generalize eD4 : L2.upd Hd4 D4 _ = Hd5
    have w5 : Same Hd4 Hd5 := by rw [← eD4]; exact sameNew nD4 _
    have hD4 : Hd5 D4 = some (.lst ((cutT ws (some (j : Int)) (some ((j : Int) + 1))).map V.str)) := by rw [← eD4, ← cutV_map]; exact upd_same
    clear eD4
    have w15 := w14.trans w5
    refine ⟨D3, D4, _, _, rfl, rfl, w5 _ _ hD3, hD4, by simp only [List.length_map, List.length_take]; omega, fun C2a nC2a => ?_⟩
    generalize eC2a : L2.upd Hd5 C2a _ = Hd6
    have w6 : Same Hd5 Hd6 := by rw [← eC2a]; exact sameNew nC2a _
    have hC2a : Hd6 C2a = some (.lst ((ws.take j ++ cutT ws (some (j : Int)) (some ((j : Int) + 1))).map V.str)) := by rw [← eC2a, List.map_append]; exact upd_same
    clear eC2a
    have w16 := w15.trans w6
    refine ⟨_, rfl, _, rfl, j, rfl, U, _, rfl, SqL.of (w16 _ _ hUc), fun D5 nD5 => ?_⟩
    generalize eD5 : L2.upd Hd6 D5 _ = Hd7
    have w7 : Same Hd6 Hd7 := by rw [← eD5]; exact sameNew nD5 _
    have hD5 : Hd7 D5 = some (.lst ((ws.drop j).map V.str)) := by rw [← eD5, ← f2']; exact upd_same
    clear eD5
    have w17 := w16.trans w7
    refine ⟨C2a, D5, _, _, rfl, rfl, w7 _ _ hC2a, hD5, by simp only [List.length_map, List.length_append, List.length_take, List.length_drop]; omega, fun C2 nC2 => ?_⟩
    have C2p := (penc.same w17).newp nC2
    generalize eC2 : L2.upd Hd7 C2 _ = Hd8
    have w8 : Same Hd7 Hd8 := by rw [← eC2]; exact sameNew nC2 _
    have lC2 : LT Hd8 C2 (J) := ⟨(ws.take j ++ cutT ws (some (j : Int)) (some ((j : Int) + 1))) ++ ws.drop j, by rw [← eC2]; simp only [List.map_append]; exact upd_same, by rw [wt_app, wt_app]; omega⟩
    clear eC2
    have w18 := w17.trans w8
    have lC1 := lC1.same ((((w4.trans w5).trans w6).trans w7).trans w8)
    clear w1 w2 w3 w13 w4 w14 w5 w15 w6 w16 w7 w17 w8 hD1 hD2 hD3 hD4 hD5 hC2a nD1 nD2 nD3 nD4 nD5 nC1 nC2 nC2a
    refine ⟨by show 2 ≤ sizeLine; omega, fun LL nLL => ?_⟩
    generalize eLL : L2.upd Hd8 LL _ = He1
    have w9 : Same Hd8 He1 := by rw [← eLL]; exact sameNew nLL _
    have hLL : He1 LL = some (.lst [V.ref C1, V.ref C2]) := by rw [← eLL]; exact upd_same
    clear eLL
    have w19 := w18.trans w9
    exact ⟨_, _, _, _, _, _, c, A1, A2, U, LL, C1, C2, a, b, ws, fr, j, J, N, m, rfl, w19 _ _ hAc, w19 _ _ hBc, w19 _ _ hUc, hLL, lC1.same w9, lC2.same w9, A1p, A2p, Up, C1p, C2p, f1, hfr, by omega, wN, hN, penc.same w19, hm, fun y H' pn sb hy => k y H' pn ((Sb.same w19).trans sb) hy⟩
  case t8 =>
    rintro D σ H9 ⟨v2, v3, v4, v9, v10, v11, v12, v13, c, W, A1, A2, rows, i, m, rfl, hW9, hA9, hB9, Wp, A1p, A2p, il, wrs, xl', pen9, hm, k⟩
    have sl := sizeLine_eq
    have rlen := wt_len rows
    obtain ⟨row, hrow⟩ : ∃ row, rows[i]? = some row := ⟨_, List.getElem?_eq_getElem il⟩
    have hix : atI (rows.map V.str) (i : Int) = some (.str row) := atI_nat (by rw [List.getElem?_map, hrow]; rfl)
    have wrow : wt (rows.take i) + (row.length + 1) + wt (rows.drop (i + 1)) = wt rows := by
      have h := wt_app (rows.take i) (rows.drop i)
      rw [List.take_append_drop, drop_at hrow, wt_cons] at h
      omega
    refine ⟨_, rfl, _, rfl, W, _, _, .str row, rfl, rfl, SqL.of hW9, hix, ⟨_, rfl⟩, _, _, rfl, rfl, by decide +kernel, by omega, fun U nU => ?_⟩
    have wws := wt_split row " " (by decide +kernel)
    have wpos := PyProof.Rows.split_pos row " "
    have u1 := sameNew nU (.lst ((Txt.split row " ").map V.str))
    have hU : L2.upd H9 U (.lst ((Txt.split row " ").map V.str)) U = some (.lst ((Txt.split row " ").map V.str)) := upd_same
    have Up := pen9.newp nU
    generalize L2.upd H9 U (.lst ((Txt.split row " ").map V.str)) = Ha at u1 hU
    generalize Txt.split row " " = ws at wws wpos hU
    have mlw : (ws.map V.str).length = ws.length := List.length_map ..
    have wlen := wt_len ws
    have pena := pen9.same u1
    have sba : Sb p H9 Ha := Sb.same u1
    have hAa := u1 _ _ hA9
    have hBa := u1 _ _ hB9
    refine ⟨_, rfl, _, rfl, U, _, rfl, .inl (SqL.of hU), p, c, m, _, rfl, pena, by omega, by rw [mlw]; omega, by rw [mlw]; omega, fun v8 Hb f0 f1 penb sbb => ?_⟩
    rw [mlw] at f1
    obtain ⟨j, rfl⟩ : ∃ j : Nat, v8 = (j : Int) := ⟨v8.toNat, by omega⟩
    have hUb := sbb.to Up hU
    have hAb := sbb.to A1p hAa
    have hBb := sbb.to A2p hBa
    have sbB := sba.trans sbb
    clear hU hAa hBa sba sbb pena u1 nU
    refine ⟨_, _, rfl, rfl, ⟨by decide, by decide, by decide⟩, _, _, rfl, rfl, _, rfl, by decide +kernel, ?_⟩
    refine ⟨_, _, rfl, rfl, ⟨by decide, by decide, by decide⟩, _, rfl, by decide +kernel, ?_⟩
    refine ⟨_, _, rfl, rfl, ⟨by decide, by decide, by decide⟩, _, _, rfl, rfl, _, rfl, by decide +kernel, ?_⟩
    refine ⟨by show 9 ≤ sizeLine; omega, fun S1 nS1 => ?_⟩
    have S1p := penb.newp nS1
    generalize eS1 : L2.upd Hb S1 _ = Hs1
    have t1 : Same Hb Hs1 := by rw [← eS1]; exact sameNew nS1 _
    obtain ⟨xs1, hS1, xl1, ok1⟩ : ∃ xs, Hs1 S1 = some (.lst xs) ∧ xs.length = 9 ∧ okF xs := ⟨_, by rw [← eS1]; exact upd_same, rfl, by
      intro v hv
      simp only [List.mem_cons, List.not_mem_nil, or_false] at hv
      rcases hv with rfl | rfl | rfl | rfl | rfl | rfl | rfl | rfl | rfl <;> exact ⟨_, rfl, by decide +kernel⟩⟩
    clear eS1
    refine ⟨_, rfl, _, _, rfl, rfl, mul60, _, _, rfl, rfl, mul61, by show 11 ≤ sizeLine; omega, fun S2 nS2 => ?_⟩
    generalize eS2 : L2.upd Hs1 S2 _ = Hs2
    have t2 : Same Hs1 Hs2 := by rw [← eS2]; exact sameNew nS2 _
    obtain ⟨xs2, hS2, xl2, ok2⟩ : ∃ xs, Hs2 S2 = some (.lst xs) ∧ xs.length = 11 ∧ okF xs := ⟨_, by rw [← eS2]; exact upd_same, rfl, by
      intro v hv
      simp only [List.mem_cons, List.not_mem_nil, or_false] at hv
      rcases hv with rfl | rfl | rfl | rfl | rfl | rfl | rfl | rfl | rfl | rfl | rfl <;> exact ⟨_, rfl, by decide +kernel⟩⟩
    clear eS2
    refine ⟨S1, S2, _, _, rfl, rfl, t2 _ _ hS1, hS2, by omega, fun S3 nS3 => ?_⟩
    generalize eS3 : L2.upd Hs2 S3 _ = Hs3
    have t3 : Same Hs2 Hs3 := by rw [← eS3]; exact sameNew nS3 _
    have hS3 : Hs3 S3 = some (.lst (xs1 ++ xs2)) := by rw [← eS3]; exact upd_same
    clear eS3
    refine ⟨_, rfl, _, rfl, by show 2 ≤ sizeLine; omega, fun S4 nS4 => ?_⟩
    generalize eS4 : L2.upd Hs3 S4 _ = Hs4
    have t4 : Same Hs3 Hs4 := by rw [← eS4]; exact sameNew nS4 _
    obtain ⟨xs4, hS4, xl4, ok4⟩ : ∃ xs, Hs4 S4 = some (.lst xs) ∧ xs.length = 2 ∧ okF xs := ⟨_, by rw [← eS4]; exact upd_same, rfl, by
      intro v hv
      simp only [List.mem_cons, List.not_mem_nil, or_false] at hv
      rcases hv with rfl | rfl <;> exact ⟨_, rfl, by decide +kernel⟩⟩
    clear eS4
    refine ⟨S3, S4, _, _, rfl, rfl, t4 _ _ hS3, hS4, by rw [List.length_append]; omega, fun S5 nS5 => ?_⟩
    have t14 := ((t1.trans t2).trans t3).trans t4
    have S5p := (penb.same t14).newp nS5
    generalize eS5 : L2.upd Hs4 S5 _ = Hs5
    have t5 : Same Hb Hs5 := t14.trans (by rw [← eS5]; exact sameNew nS5 _)
    have hS5 : Hs5 S5 = some (.lst ((xs1 ++ xs2) ++ xs4)) := by rw [← eS5]; exact upd_same
    clear eS5
    have xl5 : ((xs1 ++ xs2) ++ xs4).length = 22 := by rw [List.length_append, List.length_append]; omega
    refine .inl ⟨p, c, S5, m + 1, _, rfl, penb.same t5, by omega, S5p, .inl hS5, by omega, by omega, fun xx Hc hx penc sbc => ?_⟩
    obtain ⟨fr, rfl, hfr⟩ : ∃ fr, xx = .str fr ∧ fr.length ≤ 61 := by
      rcases List.mem_append.mp hx with hx | hx
      · rcases List.mem_append.mp hx with hx | hx
        · exact ok1 _ hx
        · exact ok2 _ hx
      · exact ok4 _ hx
    have hUc := sbc.to Up (t5 _ _ hUb)
    have hAc := sbc.to A1p (t5 _ _ hAb)
    have hBc := sbc.to A2p (t5 _ _ hBb)
    have sbC := (sbB.trans (Sb.same t5)).trans sbc
    clear t1 t2 t3 t4 t14 t5 hS1 hS2 hS3 hS4 hS5 ok1 ok2 ok4 xl1 xl2 xl4 xl5 hx sbc hUb hAb hBb nS1 nS2 nS3 nS4 nS5 S1p S5p
    exact ⟨_, _, _, _, _, _, _, c, A1, A2, U, rows.take i, rows.drop (i + 1), ws, fr, j, 2 * (row.length + 1) + 62, 3 * x.length + 100, m + 1 + 1, rfl, hAc, hBc, hUc, A1p, A2p, Up, by omega, hfr, by omega, by omega, by omega, penc, by omega, fun y H' pn sb hy => k y H' (pn.mono (by omega)) (sbC.trans sb) hy⟩
  have sl := sizeLine_eq
  refine ⟨_, rfl, _, rfl, x, rfl, by omega, _, _, rfl, rfl, p, c, n, _, rfl, pen, by omega, by omega, by omega, fun v2 H2 b0 b1 pen2 sb2 => ?_⟩
  refine ⟨_, rfl, p, c, n + 1, _, rfl, pen2, by omega, by decide, by decide, fun v3 H3 c0 c1 pen3 sb3' => ⟨_, _, rfl, ?_⟩⟩
  have sb3 := sb2.trans sb3'
  refine ⟨_, rfl, by show 11 ≤ sizeLine; omega, fun L hL => ?_⟩
  have s4 := sameNew hL (.lst (([" ", "\n", "0", "1", "9", "a", "z", "-", "=", "<", ">"] : List Str).map V.str))
  have Lp := pen3.newp hL
  refine .inl ⟨p, c, L, n + 1 + 1, _, rfl, pen3.same s4, by omega, Lp, .inl upd_same, by simp, by simp, fun x5 H5 hx5 pen5 sb5 => ?_⟩
  obtain ⟨sg, rfl, hsg⟩ : ∃ sg : Str, x5 = .str sg ∧ sg.length ≤ 1 := by
    have q : ∀ z ∈ ([" ", "\n", "0", "1", "9", "a", "z", "-", "=", "<", ">"] : List Str), z.length ≤ 1 := by decide +kernel
    obtain ⟨z, hz, e⟩ := List.mem_map.mp (show x5 ∈ ([" ", "\n", "0", "1", "9", "a", "z", "-", "=", "<", ">"] : List Str).map V.str from hx5)
    exact ⟨z, e.symm, q z hz⟩
  have sb5 := (sb3.trans (Sb.same s4)).trans sb5
  clear s4 hx5
  obtain ⟨at', rfl⟩ : ∃ i : Nat, v2 = (i : Int) := ⟨v2.toNat, by omega⟩
  obtain ⟨kd, rfl⟩ : ∃ i : Nat, v3 = (i : Int) := ⟨v3.toNat, by omega⟩
  refine ⟨_, rfl, _, _, rfl, rfl, _, rfl, ite2 (fun ck => ?_) (fun ck => ?_)⟩
  · have hk : kd < 3 := by have := of_decide_eq_true ck; omega
    obtain ⟨md, hmd, hix⟩ : ∃ md : Str, md.length ≤ 1 ∧ atI [V.str sg, V.str "", V.str sg] (kd : Int) = some (.str md) := by
      match kd, hk with
      | 0, _ => exact ⟨sg, hsg, rfl⟩
      | 1, _ => exact ⟨"", by decide +kernel, rfl⟩
      | 2, _ => exact ⟨sg, hsg, rfl⟩
    have q1 := cutS_len x none (some (at' : Int))
    refine ⟨_, rfl, _, rfl, at', rfl, x, rfl, by omega, _, rfl, _, rfl, by show 3 ≤ sizeLine; omega, fun L2 hL2 => ?_⟩
    have s6 := sameNew hL2 (.lst [V.str sg, V.str "", V.str sg])
    refine ⟨_, rfl, L2, _, _, .str md, rfl, rfl, SqL.of upd_same, hix, _, _, rfl, rfl, by rw [Nat.add_comm]; omega, ?_⟩
    refine ⟨_, rfl, _, rfl, _, rfl, _, _, rfl, rfl, .inr ⟨_, rfl, ?_⟩⟩
    have q2 := cutS_len x (some ((at' : Int) + (if decide ((0 : Int) < (kd : Int)) = true then 1 else 0))) none
    refine ⟨_, _, rfl, rfl, _, rfl, x, rfl, by omega, _, _, rfl, rfl, by rw [len_app]; omega, ?_⟩
    exact k _ _ ((pen5.same s6).mono (by omega)) (sb5.trans (Sb.same s6)) (by rw [len_app, len_app]; omega)
  refine ⟨_, rfl, ⟨_, rfl⟩, _, _, rfl, rfl, by decide +kernel, by omega, fun W nW => ?_⟩
  have wrs := wt_split x "\n" (by decide +kernel)
  have rpos := PyProof.Rows.split_pos x "\n"
  have s6 := sameNew nW (.lst ((Txt.split x "\n").map V.str))
  have hW6 : L2.upd H5 W (.lst ((Txt.split x "\n").map V.str)) W = some (.lst ((Txt.split x "\n").map V.str)) := upd_same
  generalize L2.upd H5 W (.lst ((Txt.split x "\n").map V.str)) = H6 at s6 hW6
  generalize Txt.split x "\n" = rows at wrs rpos hW6
  have ml : (rows.map V.str).length = rows.length := List.length_map ..
  have rlen := wt_len rows
  have Wp := pen5.newp nW
  have pen6 := pen5.same s6
  have sb6 := sb5.trans (Sb.same s6)
  refine ⟨_, rfl, _, rfl, W, _, rfl, .inl (SqL.of hW6), p, c, n + 1 + 1 + 1, _, rfl, pen6, by omega, by rw [ml]; omega, by rw [ml]; omega, fun v7 H7 d0 d1 pen7 sb7' => ?_⟩
  rw [ml] at d1
  have hW7 := sb7'.to Wp hW6
  have sb7 := sb6.trans sb7'
  obtain ⟨i, rfl⟩ : ∃ i : Nat, v7 = (i : Int) := ⟨v7.toNat, by omega⟩
  have e1 : cutV (rows.map V.str) none (some (i : Int)) = (rows.take i).map V.str := by rw [cut_to (by rw [ml]; omega), List.map_take]
  have e2 : cutV (rows.map V.str) (some ((i : Int) + 1)) none = (rows.drop (i + 1)).map V.str := by
    rw [show ((i : Int) + 1) = ((i + 1 : Nat) : Int) by omega, cut_from (by rw [ml]; omega), List.map_drop]
  refine ⟨_, rfl, _, rfl, i, rfl, W, _, rfl, SqL.of hW7, fun A1 nA1 => ?_⟩
  rw [e1]
  have s8 := sameNew nA1 (.lst ((rows.take i).map V.str))
  have hA8 : L2.upd H7 A1 (.lst ((rows.take i).map V.str)) A1 = some (.lst ((rows.take i).map V.str)) := upd_same
  have hW8 := s8 _ _ hW7
  generalize L2.upd H7 A1 (.lst ((rows.take i).map V.str)) = H8 at s8 hA8 hW8
  refine ⟨_, rfl, _, rfl, _, _, rfl, rfl, _, rfl, W, _, rfl, SqL.of hW8, fun A2 nA2 => ⟨_, _, rfl, ?_⟩⟩
  rw [e2]
  have s9 := sameNew nA2 (.lst ((rows.drop (i + 1)).map V.str))
  have hB9 : L2.upd H8 A2 (.lst ((rows.drop (i + 1)).map V.str)) A2 = some (.lst ((rows.drop (i + 1)).map V.str)) := upd_same
  have hW9 := s9 _ _ hW8
  have hA9 := s9 _ _ hA8
  generalize L2.upd H8 A2 (.lst ((rows.drop (i + 1)).map V.str)) = H9 at s9 hA9 hW9 hB9
  have pen9 := pen7.same (s8.trans s9)
  have sb9 := sb7.trans (Sb.same (s8.trans s9))
  have A1p := pen7.newp nA1
  have A2p := (pen7.same s8).newp nA2
  have wA := wt_take rows i
  have wB := wt_drop rows (i + 1)
  refine ⟨_, rfl, rfl, _, rfl, ite2 (fun c3 => ?_) (fun c3 => ?_)⟩
  · refine ⟨by show 5 ≤ sizeLine; omega, fun S1 nS1 => ?_⟩
    have t1 := sameNew nS1 (.lst ((["dial zz 0 1 both 1 1", "off a b 0", "one a>=1 a<=0", "most a a 1", "dial a 0 0 up 1 1"] : List Str).map V.str))
    refine ⟨_, rfl, by show 3 ≤ sizeLine; omega, fun S2 nS2 => ?_⟩
    have t2 := sameNew nS2 (.lst ((["", "least a b -0", "dials"] : List Str).map V.str))
    refine ⟨S1, S2, _, _, rfl, rfl, t2 _ _ upd_same, upd_same, by show 5 + 3 ≤ sizeLine; omega, fun S3 nS3 => ?_⟩
    have S3p := ((pen9.same t1).same t2).newp nS3
    generalize eH : L2.upd (L2.upd (L2.upd H9 S1 _) S2 _) S3 _ = Ha
    have sa : Same H9 Ha := by rw [← eH]; exact (t1.trans t2).trans (sameNew nS3 _)
    have hS : Ha S3 = some (.lst ((["dial zz 0 1 both 1 1", "off a b 0", "one a>=1 a<=0", "most a a 1", "dial a 0 0 up 1 1", "", "least a b -0", "dials"] : List Str).map V.str)) := by rw [← eH]; exact upd_same
    clear eH t1 t2
    refine ⟨_, rfl, _, rfl, A1, A2, _, _, rfl, rfl, sa _ _ hA9, sa _ _ hB9, by simp only [List.length_map, List.length_take, List.length_drop]; omega, fun C1 nC1 => ?_⟩
    have C1p := (pen9.same sa).newp nC1
    generalize eC1 : L2.upd Ha C1 _ = Hb
    have sb1 : Same Ha Hb := by rw [← eC1]; exact sameNew nC1 _
    have lC1 : LT Hb C1 (3 * x.length + 90) := ⟨rows.take i ++ rows.drop (i + 1), by rw [← eC1, List.map_append]; exact upd_same, by rw [wt_app]; omega⟩
    clear eC1
    have s9b := sa.trans sb1
    -- the second
    refine ⟨_, rfl, _, rfl, _, rfl, i, rfl, _, rfl, _, _, rfl, rfl, _, rfl, W, _, rfl, SqL.of (s9b _ _ hW9), fun D1 nD1 => ?_⟩
    generalize eD1 : L2.upd Hb D1 _ = Hc
    have sc1 : Same Hb Hc := by rw [← eD1]; exact sameNew nD1 _
    have hD1 : Hc D1 = some (.lst ((cutT rows (some (i : Int)) (some ((i : Int) + 1))).map V.str)) := by rw [← eD1, ← cutV_map]; exact upd_same
    clear eD1
    have s9c := s9b.trans sc1
    have cl1 := cutT_len rows (some (i : Int)) (some ((i : Int) + 1))
    have cw1 := wt_cut rows (some (i : Int)) (some ((i : Int) + 1))
    refine ⟨A1, D1, _, _, rfl, rfl, s9c _ _ hA9, hD1, by simp only [List.length_map, List.length_take]; omega, fun C2a nC2a => ?_⟩
    generalize eC2a : L2.upd Hc C2a _ = Hd
    have sd1 : Same Hc Hd := by rw [← eC2a]; exact sameNew nC2a _
    have hC2a : Hd C2a = some (.lst ((rows.take i ++ cutT rows (some (i : Int)) (some ((i : Int) + 1))).map V.str)) := by rw [← eC2a, List.map_append]; exact upd_same
    clear eC2a
    have s9d := s9c.trans sd1
    refine ⟨_, rfl, _, rfl, i, rfl, W, _, rfl, SqL.of (s9d _ _ hW9), fun D2 nD2 => ?_⟩
    generalize eD2 : L2.upd Hd D2 _ = He
    have se1 : Same Hd He := by rw [← eD2]; exact sameNew nD2 _
    have hD2 : He D2 = some (.lst ((cutT rows (some (i : Int)) none).map V.str)) := by rw [← eD2, ← cutV_map]; exact upd_same
    clear eD2
    have s9e := s9d.trans se1
    have cl2 := cutT_len rows (some (i : Int)) none
    have cw2 := wt_cut rows (some (i : Int)) none
    refine ⟨C2a, D2, _, _, rfl, rfl, se1 _ _ hC2a, hD2, by simp only [List.length_map, List.length_append, List.length_take]; omega, fun C2 nC2 => ?_⟩
    have C2p := (pen9.same s9e).newp nC2
    generalize eC2 : L2.upd He C2 _ = Hf
    have sf1 : Same He Hf := by rw [← eC2]; exact sameNew nC2 _
    have lC2 : LT Hf C2 (3 * x.length + 90) := ⟨(rows.take i ++ cutT rows (some (i : Int)) (some ((i : Int) + 1))) ++ cutT rows (some (i : Int)) none, by rw [← eC2]; simp only [List.map_append]; exact upd_same, by rw [wt_app, wt_app]; omega⟩
    clear eC2 hC2a hD2 hD1
    have s9f := s9e.trans sf1
    have sbf : Same Hb Hf := ((sc1.trans sd1).trans se1).trans sf1
    have lC1 := lC1.same sbf
    have hS := (sb1.trans sbf) _ _ hS
    have penf := pen9.same s9f
    have sbF := sb9.trans (Sb.same s9f)
    have hAf := s9f _ _ hA9
    have hWf := s9f _ _ hW9
    clear s9b s9c s9d s9e s9f sbf sc1 sd1 se1 sf1 sb1 sa nD1 nD2 nC2a nC2 nC1
    -- the third
    refine ⟨_, rfl, _, rfl, _, rfl, .inl ⟨p, c, S3, n + 1 + 1 + 1 + 1, _, rfl, penf, by omega, S3p, .inl hS, by simp, by simp, fun x6 Hg hx6 peng sbg' => ?_⟩⟩
    obtain ⟨fr, rfl, hfr⟩ : ∃ fr : Str, x6 = .str fr ∧ fr.length ≤ 21 := by
      have q : ∀ z ∈ (["dial zz 0 1 both 1 1", "off a b 0", "one a>=1 a<=0", "most a a 1", "dial a 0 0 up 1 1", "", "least a b -0", "dials"] : List Str), z.length ≤ 21 := by decide +kernel
      obtain ⟨z, hz, e⟩ := List.mem_map.mp hx6
      exact ⟨z, e.symm, q z hz⟩
    have sbG := sbF.trans sbg'
    have lC1 := lC1.sb sbg' C1p
    have lC2 := lC2.sb sbg' C2p
    have hAg := sbg'.to A1p hAf
    have hWg := sbg'.to Wp hWf
    clear sbg' hAf hWf penf hS
    refine ⟨by show 1 ≤ sizeLine; omega, fun E1 nE1 => ?_⟩
    generalize eE1 : L2.upd Hg E1 _ = Hh
    have s1h : Same Hg Hh := by rw [← eE1]; exact sameNew nE1 _
    have hE1 : Hh E1 = some (.lst [V.str fr]) := by rw [← eE1]; exact upd_same
    clear eE1
    refine ⟨A1, E1, _, _, rfl, rfl, s1h _ _ hAg, hE1, by simp only [List.length_map, List.length_take, List.length_singleton]; omega, fun C3a nC3a => ?_⟩
    generalize eC3a : L2.upd Hh C3a _ = Hi
    have s2h : Same Hh Hi := by rw [← eC3a]; exact sameNew nC3a _
    have hC3a : Hi C3a = some (.lst ((rows.take i ++ [fr]).map V.str)) := by rw [← eC3a, List.map_append]; exact upd_same
    clear eC3a
    have s3h := s1h.trans s2h
    refine ⟨_, rfl, _, rfl, i, rfl, W, _, rfl, SqL.of (s3h _ _ hWg), fun D3 nD3 => ?_⟩
    generalize eD3 : L2.upd Hi D3 _ = Hj
    have s4h : Same Hi Hj := by rw [← eD3]; exact sameNew nD3 _
    have hD3 : Hj D3 = some (.lst ((cutT rows (some (i : Int)) none).map V.str)) := by rw [← eD3, ← cutV_map]; exact upd_same
    clear eD3
    have s5h := s3h.trans s4h
    refine ⟨C3a, D3, _, _, rfl, rfl, s4h _ _ hC3a, hD3, by simp only [List.length_map, List.length_append, List.length_take, List.length_singleton]; omega, fun C3 nC3 => ?_⟩
    have C3p := (peng.same s5h).newp nC3
    generalize eC3 : L2.upd Hj C3 _ = Hk
    have s6h : Same Hj Hk := by rw [← eC3]; exact sameNew nC3 _
    have lC3 : LT Hk C3 (3 * x.length + 90) := ⟨(rows.take i ++ [fr]) ++ cutT rows (some (i : Int)) none, by rw [← eC3]; simp only [List.map_append]; exact upd_same, by rw [wt_app, wt_app, wt_cons, wt_nil]; omega⟩
    clear eC3
    have s7h := s5h.trans s6h
    have penk := peng.same s7h
    have sbK := sbG.trans (Sb.same s7h)
    have lC1 := lC1.same s7h
    have lC2 := lC2.same s7h
    have hAk := s7h _ _ hAg
    have hWk := s7h _ _ hWg
    clear s1h s2h s3h s4h s5h s6h s7h hC3a hD3 hE1 nC3 nD3 nC3a nE1 hAg hWg
    refine ⟨by show 3 ≤ sizeLine; omega, fun LL nLL => ?_⟩
    have LLp := penk.newp nLL
    generalize eLL : L2.upd Hk LL _ = Hl
    have s1l : Same Hk Hl := by rw [← eLL]; exact sameNew nLL _
    have hLL : Hl LL = some (.lst [V.ref C1, V.ref C2, V.ref C3]) := by rw [← eLL]; exact upd_same
    clear eLL
    refine ⟨⟨_, rfl⟩, _, rfl, _, rfl, _, rfl, _, rfl, _, rfl, i, rfl, _, rfl, _, _, rfl, rfl, _, rfl, W, _, rfl, SqL.of (s1l _ _ hWk), fun D4 nD4 => ?_⟩
    generalize eD4 : L2.upd Hl D4 _ = Hm
    have s2l : Same Hl Hm := by rw [← eD4]; exact sameNew nD4 _
    have hD4 : Hm D4 = some (.lst ((cutT rows (some (i : Int)) (some ((i : Int) + 2))).map V.str)) := by rw [← eD4, ← cutV_map]; exact upd_same
    clear eD4
    have cl4 := cutT_len rows (some (i : Int)) (some ((i : Int) + 2))
    have cw4 := wt_cut rows (some (i : Int)) (some ((i : Int) + 2))
    refine ⟨D4, _, rfl, SqL.of hD4, fun D5 nD5 => ?_⟩
    generalize eD5 : L2.upd Hm D5 _ = Hn
    have s3l : Same Hm Hn := by rw [← eD5]; exact sameNew nD5 _
    have hD5 : Hn D5 = some (.lst ((cutT rows (some (i : Int)) (some ((i : Int) + 2))).reverse.map V.str)) := by rw [← eD5, List.map_reverse]; exact upd_same
    clear eD5
    have s4l := (s1l.trans s2l).trans s3l
    refine ⟨A1, D5, _, _, rfl, rfl, s4l _ _ hAk, hD5, by simp only [List.length_map, List.length_take, List.length_reverse]; omega, fun C4a nC4a => ?_⟩
    generalize eC4a : L2.upd Hn C4a _ = Ho
    have s5l : Same Hn Ho := by rw [← eC4a]; exact sameNew nC4a _
    have hC4a : Ho C4a = some (.lst ((rows.take i ++ (cutT rows (some (i : Int)) (some ((i : Int) + 2))).reverse).map V.str)) := by rw [← eC4a, List.map_append]; exact upd_same
    clear eC4a
    have s6l := s4l.trans s5l
    refine ⟨_, rfl, _, rfl, _, _, rfl, rfl, _, rfl, W, _, rfl, SqL.of (s6l _ _ hWk), fun D6 nD6 => ?_⟩
    generalize eD6 : L2.upd Ho D6 _ = Hp6
    have s7l : Same Ho Hp6 := by rw [← eD6]; exact sameNew nD6 _
    have hD6 : Hp6 D6 = some (.lst ((cutT rows (some ((i : Int) + 2)) none).map V.str)) := by rw [← eD6, ← cutV_map]; exact upd_same
    clear eD6
    have s8l := s6l.trans s7l
    have cl6 := cutT_len rows (some ((i : Int) + 2)) none
    have cw6 := wt_cut rows (some ((i : Int) + 2)) none
    refine ⟨C4a, D6, _, _, rfl, rfl, s7l _ _ hC4a, hD6, by simp only [List.length_map, List.length_append, List.length_take, List.length_reverse]; omega, fun C4 nC4 => ?_⟩
    have C4p := (penk.same s8l).newp nC4
    generalize eC4 : L2.upd Hp6 C4 _ = Hq
    have s9l : Same Hp6 Hq := by rw [← eC4]; exact sameNew nC4 _
    have lC4 : LT Hq C4 (3 * x.length + 90) := ⟨(rows.take i ++ (cutT rows (some (i : Int)) (some ((i : Int) + 2))).reverse) ++ cutT rows (some ((i : Int) + 2)) none, by rw [← eC4]; simp only [List.map_append]; exact upd_same, by rw [wt_app, wt_app, wt_rev]; omega⟩
    clear eC4
    have sll := s8l.trans s9l
    have slq : Same Hl Hq := ((((s2l.trans s3l).trans s5l).trans s7l).trans s9l)
    have hLLq := slq _ _ hLL
    have penq := penk.same sll
    have sbQ := sbK.trans (Sb.same sll)
    have lC1 := lC1.same sll
    have lC2 := lC2.same sll
    have lC3 := lC3.same sll
    clear s1l s2l s3l s4l s5l s6l s7l s8l s9l sll slq hLL hD4 hD5 hD6 hC4a nD4 nD5 nD6 nC4a nC4 nLL hAk hWk
    refine ⟨by show 1 ≤ sizeLine; omega, fun M1 nM1 => ?_⟩
    generalize eM1 : L2.upd Hq M1 _ = Hr
    have s1q : Same Hq Hr := by rw [← eM1]; exact sameNew nM1 _
    have hM1 : Hr M1 = some (.lst [V.ref C4]) := by rw [← eM1]; exact upd_same
    clear eM1
    refine ⟨LL, M1, _, _, rfl, rfl, s1q _ _ hLLq, hM1, by show 3 + 1 ≤ sizeLine; omega, fun M2 nM2 => ?_⟩
    have M2p := (penq.same s1q).newp nM2
    generalize eM2 : L2.upd Hr M2 _ = Hs
    have s2q : Same Hr Hs := by rw [← eM2]; exact sameNew nM2 _
    have hM2 : Hs M2 = some (.lst [V.ref C1, V.ref C2, V.ref C3, V.ref C4]) := by rw [← eM2]; exact upd_same
    clear eM2
    have s3q := s1q.trans s2q
    refine .inl ⟨p, c, M2, n + 1 + 1 + 1 + 1 + 1, _, rfl, penq.same s3q, by omega, M2p, .inl hM2, by simp, by simp, fun xx Ht hxx pent sbt => ?_⟩
    have pick : ∃ C, xx = .ref C ∧ LT Ht C (3 * x.length + 90) := by
      simp only [List.mem_cons, List.not_mem_nil, or_false] at hxx
      rcases hxx with rfl | rfl | rfl | rfl
      · exact ⟨C1, rfl, (lC1.same s3q).sb sbt C1p⟩
      · exact ⟨C2, rfl, (lC2.same s3q).sb sbt C2p⟩
      · exact ⟨C3, rfl, (lC3.same s3q).sb sbt C3p⟩
      · exact ⟨C4, rfl, (lC4.same s3q).sb sbt C4p⟩
    obtain ⟨C, rfl, ys, hC, hw⟩ := pick
    have jl := join_le "\n" ys
    have e1' : ("\n" : Str).length = 1 := by decide +kernel
    have uw : wt ys = (ys.map (·.length)).sum + ys.length := rfl
    rw [e1'] at jl
    refine ⟨_, C, _, rfl, rfl, .inl (SqL.of hC), by rw [e1']; omega, ?_⟩
    exact k _ Ht (pent.mono (by omega)) ((sbQ.trans (Sb.same s3q)).trans sbt) (by omega)
  have rl2 : i < rows.length := by omega
  exact ⟨_, _, _, _, _, _, _, _, c, W, A1, A2, rows, i, n + 1 + 1 + 1 + 1, rfl, hW9, hA9, hB9, Wp, A1p, A2p, rl2, wrs, xl, pen9, by omega, fun y H' pn sb hy => k y H' (pn.mono (by omega)) (sb9.trans sb) hy⟩
end
end Pk
end
section
set_option maxHeartbeats 1000000
/-! What a text tells is small enough for repr. -/
namespace Pk
open PySem PySem.Spec PyProof.Rows L2 TL
theorem readH_le : ∀ {l : List Str} {j k : Nat} {ds : List Dw} {rs : List Rw}, readH j ds rs l = .inl k → k ≤ j + l.length
  | [], j, k, ds, rs, h => by cases h
  | x :: l, j, k, ds, rs, h => by
    rw [List.length_cons]
    have h : (match readW x with
      | some (.rule r) => readH (j + 1) ds (rs ++ [r]) l
      | some (.dial d) => if rs.isEmpty then readH (j + 1) (ds ++ [d]) rs l else .inl j
      | none => .inl j) = .inl k := h
    cases e : readW x with
    | none =>
      rw [e] at h
      have := Sum.inl.inj h
      omega
    | some o =>
      cases o with
      | rule r =>
        rw [e] at h
        have := readH_le (show readH (j + 1) ds (rs ++ [r]) l = .inl k from h)
        omega
      | dial d =>
        rw [e] at h
        have h : (if rs.isEmpty = true then readH (j + 1) (ds ++ [d]) rs l else .inl j) = .inl k := h
        by_cases c : rs.isEmpty = true
        · rw [if_pos c] at h
          have := readH_le h
          omega
        · rw [if_neg c] at h
          have := Sum.inl.inj h
          omega
theorem readH_good : ∀ {l : List Str} {j : Nat} {ds ds' : List Dw} {rs rs' : List Rw}, readH j ds rs l = .inr (ds', rs') → (∀ d ∈ ds, DwG d) → (∀ r ∈ rs, RwG r) → (∀ d ∈ ds', DwG d) ∧ ∀ r ∈ rs', RwG r
  | [], j, ds, ds', rs, rs', h, h1, h2 => by
    have := Sum.inr.inj (show (Sum.inr (ds, rs) : Nat ⊕ (List Dw × List Rw)) = .inr (ds', rs') from h)
    cases this
    exact ⟨h1, h2⟩
  | x :: l, j, ds, ds', rs, rs', h, h1, h2 => by
    have h : (match readW x with
      | some (.rule r) => readH (j + 1) ds (rs ++ [r]) l
      | some (.dial d) => if rs.isEmpty then readH (j + 1) (ds ++ [d]) rs l else .inl j
      | none => .inl j) = .inr (ds', rs') := h
    cases e : readW x with
    | none => rw [e] at h; cases h
    | some o =>
      have g := readW_good e
      cases o with
      | rule r =>
        rw [e] at h
        refine readH_good (show readH (j + 1) ds (rs ++ [r]) l = .inr (ds', rs') from h) h1 fun r' hr => ?_
        rcases List.mem_append.mp hr with hr | hr
        · exact h2 r' hr
        · rw [List.mem_singleton.mp hr]; exact g
      | dial d =>
        rw [e] at h
        have h : (if rs.isEmpty = true then readH (j + 1) (ds ++ [d]) rs l else .inl j) = .inr (ds', rs') := h
        by_cases c : rs.isEmpty = true
        · rw [if_pos c] at h
          refine readH_good h (fun d' hd => ?_) h2
          rcases List.mem_append.mp hd with hd | hd
          · exact h1 d' hd
          · rw [List.mem_singleton.mp hd]; exact g
        · rw [if_neg c] at h
          cases h
theorem inS_mem' {zs : List Str} {z : Str} (h : inS zs (.str z) = true) : z ∈ zs := inS_mem h
theorem near_bd {i : Int} (h : nearI i = true) : -greatS ≤ i ∧ i ≤ greatS := by
  rw [← near_eq, whole_dec, Bool.and_eq_true, decide_eq_true_eq, decide_eq_true_eq] at h
  exact h
/-- a house that was read is a good one -/
theorem good_G {ds : List Dw} {rs : List Rw} (h1 : ∀ d ∈ ds, DwG d) (h2 : ∀ r ∈ rs, RwG r) (h : goodH ds rs = true) : HouseG (ds.map dialP) (rs.map ruleP) := by
  have hL := houseL_eq h1 h2
  rw [h] at hL
  unfold houseL at hL
  simp only [Bool.and_eq_true, decide_eq_true_eq] at hL
  obtain ⟨⟨c1, c2⟩, c3, c4, c5, c6, c7⟩ := hL
  have nm : (ds.map dialP).map nameOf = ds.map (·.nm) := by rw [List.map_map]; rfl
  have pw := strS_none.mp c4
  have e1 := fDial_iff (k := 0) (p := none) h1
  rw [c4, c6] at e1
  have e2 := (fRule_iff (ns := ds.map (·.nm)) (k := 0) (past := []) h2).mpr ⟨List.all_eq_true.mp c7, c5, fun r _ h => (by cases h)⟩
  refine ⟨by rw [List.length_map]; exact c1, by rw [List.length_map]; exact c2, by rw [List.length_map]; exact c3, fun d hd => ?_, fun r hr => ?_, ?_, ?_, ?_⟩
  · obtain ⟨e, he, rfl⟩ := List.mem_map.mp hd
    have g := h1 e he
    have o := List.all_eq_true.mp c6 e he
    have nn := g.1
    rw [nameD_str, Bool.and_eq_true, Bool.and_eq_true, decide_eq_true_eq, decide_eq_true_eq] at nn
    unfold dialOk at o
    simp only [Bool.and_eq_true, decide_eq_true_eq] at o
    obtain ⟨⟨a, b, c⟩, d', f⟩ := o
    refine ⟨e.nm, e.way, e.lo, e.hi, e.up, e.dn, rfl, nameD_nm g.1, ⟨by omega, by omega⟩, g.2, a, b, c, ?_, ?_, ?_, ?_⟩ <;> (split at d' <;> split at f <;> omega)
  · obtain ⟨e, he, rfl⟩ := List.mem_map.mp hr
    have g := h2 e he
    have o := List.all_eq_true.mp c7 e he
    unfold ruleOk at o
    rw [Bool.and_eq_true, Bool.and_eq_true, List.all_eq_true, List.all_eq_true] at o
    obtain ⟨o1, o2, o3⟩ := o
    rw [nm]
    cases e with
    | one s t =>
      have s1 := near_bd (o2 s.2.2 (by simp [farR]))
      have t1 := near_bd (o2 t.2.2 (by simp [farR]))
      exact rule_one (say_g (inS_mem (o1 s.1 (by simp [knownR]))) (nameD_nm g.1.1) g.1.2 s1.1 s1.2) (say_g (inS_mem (o1 t.1 (by simp [knownR]))) (nameD_nm g.2.1) g.2.2 t1.1 t1.2)
    | two w a b c =>
      have c1 := near_bd (o2 c (by simp [farR]))
      have ne : a ≠ b := by
        have o3 : (!decide (a = b)) = true := o3
        simpa using o3
      exact rule_pair g.1 (inS_mem (o1 a (by simp [knownR]))) (inS_mem (o1 b (by simp [knownR]))) ne (nameD_nm g.2.1) (nameD_nm g.2.2) c1.1 c1.2
  · rw [nm]
    show List.Pairwise (fun a b => a ≠ b) _
    exact pw.imp fun {a b} z e => by
      rw [e] at z
      exact lts_irrefl _ z
  · cases q : fDial 0 none (ds.map dialP) with
    | none => rfl
    | some k => rw [q] at e1; cases e1
  · rw [nm]
    cases q : fRule (ds.map (·.nm)) 0 [] (rs.map ruleP) with
    | none => rfl
    | some k =>
      rw [show fRule (ds.map (·.nm)) 0 (([] : List Rw).map ruleP) (rs.map ruleP) = some k from q] at e2
      cases e2
theorem house_rep {ds rs : List PyData} (hg : HouseG ds rs) : (PyData.tuple [.tuple ds, .tuple rs]).showable = true ∧ (PyData.tuple [.tuple ds, .tuple rs]).depth ≤ 60 ∧ (PyData.tuple [.tuple ds, .tuple rs]).shown.length ≤ PySem.sizeLine := by
  obtain ⟨h1, h2, h3⟩ := house_lv hg
  exact ⟨(lv_ok (k := 0) (by omega) h1 (by omega)).2.1, by omega, lv_shown (k := 0) (by omega) h1 (by omega)⟩
theorem row_rep {k : Nat} (hk : k ≤ 16777216) : (PyData.tuple [.str "row", .int (k : Int)]).showable = true ∧ (PyData.tuple [.str "row", .int (k : Int)]).depth ≤ 60 ∧ (PyData.tuple [.str "row", .int (k : Int)]).shown.length ≤ PySem.sizeLine := by
  have lk : lv 0 (.int (k : Int)) = true := int_lv (by have := greatG; have : greatS = 100000000000000000000 := rfl; omega) (by have : greatS = 100000000000000000000 := rfl; omega)
  have l1 : lv 0 (.str "row") = true := by decide +kernel
  have h1 : lv 0 (.tuple [.str "row", .int (k : Int)]) = true := by simp only [lv_tup, lvs, lk, l1, Bool.and_self]
  have z : ("row" : Str).cps.size = 3 := by decide +kernel
  have h2 : (PyData.tuple [.str "row", .int (k : Int)]).bulk ≤ 100 := by
    simp only [PyData.bulk, PyData.bulkAll]
    omega
  have h3 : (PyData.tuple [.str "row", .int (k : Int)]).depth ≤ 2 := by simp [PyData.depth, PyData.depthAll]
  exact ⟨(lv_ok (k := 0) (by omega) h1 (by omega)).2.1, by omega, lv_shown (k := 0) (by omega) h1 (by omega)⟩
theorem told_rep {x : Str} (h : x.length + 16 ≤ sizeLine) : (toldP (readX x)).showable = true ∧ (toldP (readX x)).depth ≤ 60 ∧ (toldP (readX x)).shown.length ≤ PySem.sizeLine := by
  have sl := sizeLine_eq
  have rn := PyProof.Rows.split_le x "\n"
  cases e : readH 0 [] [] (Txt.split x "\n") with
  | inl k =>
    have b := readH_le e
    rw [readX_inl e]
    exact row_rep (by omega)
  | inr p =>
    obtain ⟨ds, rs⟩ := p
    obtain ⟨g1, g2⟩ := readH_good e (fun _ h => (by cases h)) (fun _ h => (by cases h))
    rw [readX_inr e]
    cases c : goodH ds rs with
    | true => exact house_rep (good_G g1 g2 c)
    | false => exact row_rep (by omega)
end Pk
end
section
set_option maxHeartbeats 400000
/-! show_house. -/
namespace Pk
open PySem PySem.Spec PyProof.Rows L2 TL
theorem say_at {H : Hp} {x : V} {z so : Str} {i : Int} (t : Tr H x (.tuple [.str z, .str so, .int i])) : ∃ a, x = .ref a ∧ H a = some (.tup [.str z, .str so, .int i]) := by
  cases t with
  | @tup a xs _ ha al =>
  match xs, al with
  | [_, _, _], .cons (.str _) (.cons (.str _) (.cons (.int _) .nil)) => exact ⟨a, rfl, ha⟩
theorem rule_at {ds rs : List PyData} (hg : HouseG ds rs) {H : Hp} {x : V} {r : PyData} (hr : r ∈ rs) (t : Tr H x r) : ∃ a, x = .ref a ∧ RuleAt H a r := by
  rcases rule_shape hg hr with ⟨z1, so1, z2, so2, i1, i2, rfl, a1, a2, a3, a4, a5, a6⟩ | ⟨w, a, b, c, rfl, h1, h2, h3, h4, h5⟩
  · cases t with
    | @tup e xs _ ha al =>
      cases al with
      | cons t0 al =>
      cases t0
      cases al with
      | cons t1 al =>
      cases al with
      | cons t2 al =>
      cases al
      obtain ⟨p, rfl, hp⟩ := say_at t1
      obtain ⟨q, rfl, hq⟩ := say_at t2
      exact ⟨e, rfl, .one ha ⟨hp, (nmH_ok hg a1).1, a3, a5⟩ ⟨hq, (nmH_ok hg a2).1, a4, a6⟩⟩
  · cases t with
    | @tup e xs _ ha al =>
    match xs, al with
    | [_, _, _, _], .cons (.str _) (.cons (.str _) (.cons (.str _) (.cons (.int _) .nil))) => exact ⟨e, rfl, .two ha h1 (nmH_ok hg h2).1 (nmH_ok hg h3).1 h4 h5⟩
/-- all words of a rule, of a dial -/
theorem wordsR_ok {ds rs : List PyData} (hg : HouseG ds rs) {r : PyData} (hr : r ∈ rs) : (∀ x ∈ wordsR r, wordOk x) ∧ wordsR r ≠ [] ∧ (wordsR r).length ≤ 4 := by
  rcases rule_shape hg hr with ⟨z1, so1, z2, so2, i1, i2, rfl, a1, a2, a3, a4, a5, a6⟩ | ⟨w, a, b, c, rfl, h1, h2, h3, h4, h5⟩
  · refine ⟨fun x hx => ?_, by simp [wordsR], by simp [wordsR]⟩
    simp only [wordsR, List.mem_cons, List.not_mem_nil, or_false] at hx
    rcases hx with rfl | rfl | rfl
    · exact nm_word (words_nm _ (by decide +kernel))
    · exact say_word (nmH_ok hg a1).1 a5.1 a5.2
    · exact say_word (nmH_ok hg a2).1 a6.1 a6.2
  · refine ⟨fun x hx => ?_, by simp [wordsR], by simp [wordsR]⟩
    simp only [wordsR, List.mem_cons, List.not_mem_nil, or_false] at hx
    rcases hx with rfl | rfl | rfl | rfl
    · exact nm_word (pair_nm h1)
    · exact nm_word (nmH_ok hg h2).1
    · exact nm_word (nmH_ok hg h3).1
    · exact num_word h4 h5
theorem wordsD_ok {d : PyData} (h : DialG d) : (∀ x ∈ wordsD d, wordOk x) ∧ wordsD d ≠ [] ∧ (wordsD d).length = 7 := by
  obtain ⟨nm, way, lo, hi, up, dn, rfl, h1, _, h2, b1, b2, b3, b4, b5, b6, b7⟩ := h
  have gr : greatS = 100000000000000000000 := rfl
  have fr : farS = 1000000000000000000 := rfl
  refine ⟨fun x hx => ?_, by simp [wordsD], by simp [wordsD]⟩
  simp only [wordsD, List.mem_cons, List.not_mem_nil, or_false] at hx
  rcases hx with rfl | rfl | rfl | rfl | rfl | rfl | rfl
  · exact ⟨by decide +kernel, by decide +kernel⟩
  · exact nm_word h1
  · exact num_word (by omega) (by omega)
  · exact num_word (by omega) (by omega)
  · exact nm_word (way_nm h2)
  · exact num_word (by omega) (by omega)
  · exact num_word (by omega) (by omega)
theorem row_len {ws : List Str} (h : ∀ x ∈ ws, wordOk x) (hl : ws.length ≤ 7) : (rowS ws).length ≤ 427 := by
  have q := len_join (y := " ") (n := 60) fun x hx => (h x hx).1
  have e : (" " : Str).length = 1 := by decide +kernel
  rw [e] at q
  have : ws.length * (60 + 1) ≤ 7 * 61 := Nat.mul_le_mul_right _ hl
  show (Txt.join " " ws).length ≤ 427
  omega
theorem rows_len {ds rs : List PyData} (hg : HouseG ds rs) : ∀ x ∈ rowsH ds rs, x.length ≤ 427 := fun x hx => by
  rcases List.mem_append.mp hx with hx | hx
  · obtain ⟨d, hd, rfl⟩ := List.mem_map.mp hx
    obtain ⟨a, _, b⟩ := wordsD_ok (hg.dials d hd)
    exact row_len a (by omega)
  · obtain ⟨r, hr, rfl⟩ := List.mem_map.mp hx
    obtain ⟨a, _, b⟩ := wordsR_ok hg hr
    exact row_len a (by omega)
theorem rows_num {ds rs : List PyData} (hg : HouseG ds rs) : (rowsH ds rs).length ≤ 52 := by
  unfold rowsH
  rw [List.length_append, List.length_map, List.length_map]
  have := hg.d2
  have := hg.r2
  omega
theorem rows_sum {ds rs : List PyData} (hg : HouseG ds rs) : ((rowsH ds rs).map (·.length)).sum + (rowsH ds rs).length * ("\n" : Str).length ≤ 16777216 := by
  have q := sum_len (rows_len hg)
  have n := rows_num hg
  have e : ("\n" : Str).length = 1 := by decide +kernel
  rw [e]
  have : (rowsH ds rs).length * 427 ≤ 52 * 427 := Nat.mul_le_mul_right _ n
  omega
theorem dial_row {nm way : Str} {lo hi up dn : Int} : ("dial " : Str) ++ nm ++ " " ++ numS lo ++ " " ++ numS hi ++ " " ++ way ++ " " ++ numS up ++ " " ++ numS dn = rowS (wordsD (.tuple [.str nm, .int lo, .int hi, .str way, .int up, .int dn])) := by
  refine app_eq ?_
  show _ = tl (Txt.join " " ["dial", nm, numS lo, numS hi, way, numS up, numS dn])
  rw [join_eq, tl_join]
  show tl (("dial " : Str) ++ nm ++ " " ++ numS lo ++ " " ++ numS hi ++ " " ++ way ++ " " ++ numS up ++ " " ++ numS dn) = tl "dial" ++ (tl " " ++ (tl nm ++ (tl " " ++ (tl (numS lo) ++ (tl " " ++ (tl (numS hi) ++ (tl " " ++ (tl way ++ (tl " " ++ (tl (numS up) ++ (tl " " ++ tl (numS dn))))))))))))
  rw [tl_append, tl_append, tl_append, tl_append, tl_append, tl_append, tl_append, tl_append, tl_append, tl_append, tl_append, show tl ("dial " : Str) = tl ("dial" : Str) ++ tl (" " : Str) from by decide +kernel]
  simp only [List.append_assoc]
/-- a dial's row, as it is written -/
def tRow : TE := fun σ H Q => tJs [tC (.str "dial "), tFmt (tVar 2), tC (.str " "), tFmt (tVar 3), tC (.str " "), tFmt (tVar 4), tC (.str " "), tFmt (tVar 5), tC (.str " "), tFmt (tVar 6), tC (.str " "), tFmt (tVar 7)] Str.empty σ H fun out H1 => Q (.str out) H1
theorem js_c {ts : List TE} {acc y : Str} {σ : L2.St} {H : Hp} {Q : Str → Hp → Prop} (h : (acc ++ y).length ≤ sizeLine) (k : tJs ts (acc ++ y) σ H Q) : tJs (tC (.str y) :: ts) acc σ H Q := ⟨y, rfl, h, k⟩
theorem js_s {ts : List TE} {acc y : Str} {i : Nat} {σ : L2.St} {H : Hp} {Q : Str → Hp → Prop} (hi : σ[i]? = some (some (.str y))) (h : (acc ++ y).length ≤ sizeLine) (k : tJs ts (acc ++ y) σ H Q) : tJs (tFmt (tVar i) :: ts) acc σ H Q :=
  ⟨.str y, hi, .inl ⟨y, rfl, by rw [len_app] at h; omega, y, rfl, h, k⟩⟩
theorem js_i {ts : List TE} {acc : Str} {n : Int} {i : Nat} {σ : L2.St} {H : Hp} {Q : Str → Hp → Prop} (hi : σ[i]? = some (some (.int n))) (hl : n.natAbs.log2 < 1920) (h : (acc ++ numS n).length ≤ sizeLine) (k : tJs ts (acc ++ numS n) σ H Q) : tJs (tFmt (tVar i) :: ts) acc σ H Q :=
  ⟨.int n, hi, .inr ⟨n, rfl, hl, numS n, rfl, h, k⟩⟩
theorem run_row {σ : L2.St} {H : Hp} {Q : VK} {nm way : Str} {lo hi up dn : Int} (dg : DialG (.tuple [.str nm, .int lo, .int hi, .str way, .int up, .int dn])) (h2 : σ[2]? = some (some (.str nm))) (h3 : σ[3]? = some (some (.int lo))) (h4 : σ[4]? = some (some (.int hi))) (h5 : σ[5]? = some (some (.str way))) (h6 : σ[6]? = some (some (.int up))) (h7 : σ[7]? = some (some (.int dn)))
    (k : Q (.str (rowS (wordsD (.tuple [.str nm, .int lo, .int hi, .str way, .int up, .int dn])))) H) : tRow σ H Q := by
  have wl := row_len (wordsD_ok dg).1 (Nat.le_of_eq (wordsD_ok dg).2.2)
  rw [← dial_row] at wl k
  obtain ⟨nm', way', lo', hi', up', dn', e, _, _, _, c1, c2, c3, c4, c5, c6, c7⟩ := dg
  cases e
  have gr : greatS = 100000000000000000000 := rfl
  have fr : farS = 1000000000000000000 := rfl
  have sl := sizeLine_eq
  simp only [len_app] at wl
  unfold tRow
  refine js_c (by rw [emp_app]; omega) ?_
  rw [emp_app]
  refine js_s h2 (by simp only [len_app]; omega) (js_c (by simp only [len_app]; omega) (js_i h3 (log_n (by omega) (by omega)) (by simp only [len_app]; omega) (js_c (by simp only [len_app]; omega) (js_i h4 (log_n (by omega) (by omega)) (by simp only [len_app]; omega) (js_c (by simp only [len_app]; omega) (js_s h5 (by simp only [len_app]; omega) (js_c (by simp only [len_app]; omega) (js_i h6 (log_n (by omega) (by omega)) (by simp only [len_app]; omega) (js_c (by simp only [len_app]; omega) (js_i h7 (log_n (by omega) (by omega)) (by simp only [len_app]; omega) ?_))))))))))
  exact k
theorem run_row2 {W : L2.St} (hW : W.length = 9) {H : Hp} {Q : VK} {nm way : Str} {lo hi up dn : Int} (dg : DialG (.tuple [.str nm, .int lo, .int hi, .str way, .int up, .int dn]))
    (k : Q (.str (rowS (wordsD (.tuple [.str nm, .int lo, .int hi, .str way, .int up, .int dn])))) H) : tRow ((((((W.set 2 (some (.str nm))).set 3 (some (.int lo))).set 4 (some (.int hi))).set 5 (some (.str way))).set 6 (some (.int up))).set 7 (some (.int dn))) H Q :=
  run_row dg (by simp [List.getElem?_set, hW]) (by simp [List.getElem?_set, hW]) (by simp [List.getElem?_set, hW]) (by simp [List.getElem?_set, hW]) (by simp [List.getElem?_set, hW]) (by simp [List.getElem?_set, hW]) k
theorem tYes_eq {σ : L2.St} {H : Hp} {k : Bool → Hp → Prop} : tYes σ H k = k true H := rfl
theorem wipe_get {σ : L2.St} {j : Nat} : ∀ {vs : List Nat}, (L2.wipe σ vs)[j]? = if j ∈ vs then (if j < σ.length then some none else none) else σ[j]?
  | [] => by rw [if_neg (by simp)]; rfl
  | v :: vs => by
    show ((L2.wipe σ vs).set v none)[j]? = _
    rw [List.getElem?_set, L2.wipe_length, wipe_get (vs := vs)]
    by_cases e : v = j
    · subst e
      rw [if_pos rfl, if_pos (List.mem_cons_self (a := v) (l := vs))]
    · rw [if_neg e]
      by_cases m : j ∈ vs
      · rw [if_pos m, if_pos (List.mem_cons_of_mem _ m)]
      · rw [if_neg m, if_neg (fun z => (List.mem_cons.mp z).elim (fun q => e q.symm) m)]
theorem wipe_set {σ : L2.St} {i : Nat} {x : Option V} {vs : List Nat} (h : i ∈ vs) : L2.wipe (σ.set i x) vs = L2.wipe σ vs := by
  refine List.ext_getElem? fun j => ?_
  rw [wipe_get, wipe_get, List.length_set]
  by_cases m : j ∈ vs
  · rw [if_pos m, if_pos m]
  · rw [if_neg m, if_neg m, List.getElem?_set_ne (fun (z : i = j) => m (z ▸ h))]
theorem wipe_wipe {σ : L2.St} {vs : List Nat} : L2.wipe (L2.wipe σ vs) vs = L2.wipe σ vs := by
  refine List.ext_getElem? fun j => ?_
  rw [wipe_get, L2.wipe_length, wipe_get]
  by_cases m : j ∈ vs
  · rw [if_pos m, if_pos m]
  · rw [if_neg m, if_neg m]
def spShow (Ps : List Addr) (CN : Addr) : Sp := fun vs H Q E => ∃ (x : V) (d : PyData), vs = [x] ∧ Tr H x d ∧ okS d = true ∧ Tabs Ps H ∧ ((∃ ds rs, d = .tuple [.tuple ds, .tuple rs] ∧ HouseG ds rs ∧ ∀ H', GrS Ps H H' → Q (.str (houseS ds rs)) H') ∨ (isFault (faultD d) ∧ ∀ (v : V) (dx : Addr) (H' : Hp), GrS Ps H H' → Tr H' v (faultD d) → H' dx = some (.xd [("fault", v)]) → E (.ref CN) (some dx) H'))
section
variable {P : Program} {w : World} {K : PySem.W.Frag} {mg : Str → Option Value} {base : Heap} {Ps : List Addr} {P1 P2 : Addr}
abbrev nShow : List Str := ["house", "rows", "name", "low", "high", "way", "up", "down", "rule"]
end
end Pk
end
section
set_option maxHeartbeats 1000000
/-! The law's own: show_house. -/
namespace Pk
open PySem PySem.Spec PyProof.Rows L2 TL
abbrev sLShow : Stmt := topH 52
theorem callR_or {X : Cx} {f : Value} {r r' : List V → Hp → VK → Prop} (h : CallR X f r) (h' : CallR X f r') : CallR X f (fun xs H Q => r xs H Q ∨ r' xs H Q) := by
  intro pins s σ H xs us Q I rv q
  rcases q with q | q
  · exact h pins s σ H xs us Q I rv q
  · exact h' pins s σ H xs us Q I rv q
/-- a part of a row and its text -/
inductive PartAt (H : Hp) : V → Str → Prop
  | str {z : Str} (h : nmOk z) : PartAt H (.str z) z
  | int {i : Int} (b1 : -greatS ≤ i) (b2 : i ≤ greatS) : PartAt H (.int i) (numS i)
  | say {p : Addr} {z so : Str} {i : Int} (h : SayAt H p z so i) : PartAt H (.ref p) (z ++ sgnS so ++ numS i)
theorem PartAt.same {H H' : Hp} {x : V} {t : Str} (h : PartAt H x t) (s : Same H H') : PartAt H' x t := by
  cases h with
  | str h => exact .str h
  | int b1 b2 => exact .int b1 b2
  | say h => exact .say ⟨s _ _ h.1, h.2⟩
theorem PartAt.word {H : Hp} {x : V} {t : Str} (h : PartAt H x t) : wordOk t := by
  cases h with
  | str h => exact nm_word h
  | int b1 b2 => exact num_word b1 b2
  | say h => exact say_word h.2.1 h.2.2.2.1 h.2.2.2.2
def rStr : List V → Hp → VK → Prop := fun xs H Q => (∃ i, xs = [.int i] ∧ i.natAbs.log2 < 1920 ∧ Q (.str (toString i)) H) ∨ ∃ a, xs = [.str a] ∧ Q (.str a) H
theorem call_strA {X : Cx} : CallR X (.type "str") rStr := callR_or call_str_int SkE.call_str_str
/-- the parts of a rule's row -/
theorem rule_parts {H : Hp} {a : Addr} {r : PyData} (h : RuleAt H a r) : ∃ xs : List V, H a = some (.tup xs) ∧ Paired (PartAt H) xs (wordsR r) ∧ xs.length ≤ 4 := by
  cases h with
  | one h hp hq => exact ⟨_, h, .cons (.str (words_nm _ (by decide +kernel))) (.cons (.say hp) (.cons (.say hq) .nil)), by simp⟩
  | two h hw hx hy b1 b2 => exact ⟨_, h, .cons (.str (pair_nm hw)) (.cons (.str hx) (.cons (.str hy) (.cons (.int b1 b2) .nil))), by simp⟩
def spLShow : Sp := fun vs H Q _ => ∃ (h : Addr) (ds rs : List PyData), vs = [.ref h] ∧ Tr H (.ref h) (.tuple [.tuple ds, .tuple rs]) ∧ HouseG ds rs ∧ ∀ H', Same H H' → Q (.str (houseS ds rs)) H'
theorem paired_get {α β : Type} {R : α → β → Prop} : ∀ {as : List α} {bs : List β}, Paired R as bs → ∀ {i : Nat} {a : α}, as[i]? = some a → ∃ b, bs[i]? = some b ∧ R a b
  | _, _, .nil, i, a, h => by simp at h
  | _, _, .cons r t, 0, a, h => by
    cases h
    exact ⟨_, rfl, r⟩
  | _, _, .cons r t, i + 1, a, h => paired_get t h
section
variable {P : Program} {w : World} {K : PySem.W.Frag} {mg : Str → Option Value} {base : Heap}
abbrev nLShow : List Str := ["_law_house_here", "_law_rows", "_law_dial", "_law_part", "_law_rule_here", "_law_words"]
theorem scLShow : FnScope nLShow ["_law_house_here"] (defScope sLShow) := ⟨rfl, rfl, rfl, by decide +kernel, rfl, by decide +kernel, by decide +kernel⟩
theorem ok_lshow {f g : Addr} {fd gd : FuncData} (F : Fun K "_law_show_house" "_law_show_house" sLShow f fd) (B : BltH mg)
    (G : FnOk P w K mg base CX0 1 g gd ["_law_saying_here"] spShSay) (bG : Binds K gd ["_law_saying_here"] []) (kG : PySem.W.keepIn K (.ref g) = true) (mG : mg "_law_show_saying" = some (.ref g)) : FnOk P w K mg base CX0 2 f fd ["_law_house_here"] spLShow := by
  refine F.ok scLShow (fun vs H Q E h => ?_) (fun cdv A outer s H vs Q E hr h => ?_)
  · obtain ⟨h, ds, rs, rfl, _⟩ := h
    rfl
  obtain ⟨h, ds, rs, rfl, th, hg, k⟩ := h
  refine ⟨_, pss_cons (ps_set (i := 1) scLShow.nd rfl (.inl rfl) (pe_lst pa_nil)) <|
    pss_cons (ps_for PassesOwn.never rfl (pi_tup (pe_ix ix_tup (pv 0) pe_int (fun _ _ => rfl))) (pg_name (i := 2) scLShow.nd rfl (.inl rfl))
      (pss_one (ps_expr (pe_bm PySem.F.plainAttrs_list PySem.F.slot_list_append PySem.F.type_list_append mt_append (pv 1) (pa_cons (pe_join pe_str (pe_op op_cat (pe_lst (pa_cons pe_str pa_nil)) (pe_lc (own := [("_law_part", 3)]) (g := gName 3) (by rfl) scLShow.nd (pi_tup (pv 2)) (blkOk_by (N := nLShow) (sc := defScope sLShow) (by decide +kernel)) (fun _ _ _ _ _ => pg_name (i := 3) scLShow.nd rfl (Or.inl rfl)) (fun _ _ _ _ _ => pts_nil) (fun _ _ _ _ _ => pe_callTy call_strA (by rfl) B.str (by decide +kernel) (pa_cons (pv 3) pa_nil))))) pa_nil))))) <|
    pss_cons (ps_for PassesOwn.never rfl (pi_tup (pe_ix ix_tup (pv 0) pe_int (fun _ _ => rfl))) (pg_name (i := 4) scLShow.nd rfl (.inl rfl))
      (pss_cons (ps_setLc (i := 5) (own := [("_law_part", 3)]) (g := gName 3) (by rfl) scLShow.nd rfl rfl (sw_true rfl rfl rfl (by decide +kernel)) (pi_tup (pv 4)) (blkOk_by (N := nLShow) (sc := defScope sLShow) (by decide +kernel)) (fun _ _ _ _ _ => pg_name (i := 3) scLShow.nd rfl (Or.inl rfl)) (fun _ _ _ _ _ => pts_nil)
          (fun _ _ _ _ _ => pe_ifExp (pt_val (pe_callB call_isT (by rfl) B.isinstance (by decide +kernel) (pa_cons (pv 3) (pa_cons (pe_bltn (v := .ty "tuple") (by rfl) B.tuple (by decide +kernel) rfl) pa_nil)))) (pe_call G hr rfl mG kG bG .nil pass0 (pa_cons (pv 3) pa_nil)) (pe_callTy call_strA (by rfl) B.str (by decide +kernel) (pa_cons (pv 3) pa_nil)))) <|
       pss_one (ps_expr (pe_bm PySem.F.plainAttrs_list PySem.F.slot_list_append PySem.F.type_list_append mt_append (pv 1) (pa_cons (pe_join pe_str (pv 5)) pa_nil))))) <|
    pss_one (ps_ret (pe_join pe_str (pv 1))), ?_⟩
  have sl := sizeLine_eq
  have d2 := hg.d2
  have r2 := hg.r2
  have b1 : (" " : Str).length = 1 := by decide +kernel
  cases th with
  | @tup _ hs _ hh al =>
  match hs, al with
  | [_, _], .cons (.tup (a := dt) (xs := xs) hdt ald) (.cons (.tup (a := rt) (xs := ys) hrt alr) .nil) =>
  have dl := ald.length
  have rl := alr.length
  refine ⟨by show 0 ≤ sizeLine; omega, fun R nR => ?_⟩
  have s0 := sameNew nR (.lst [])
  refine ⟨_, rfl, h, _, _, _, rfl, rfl, SqT.of (s0 _ _ hh), rfl, dt, rfl, ⟨_, SqT.of (s0 _ _ hdt)⟩, for_tup (K := K) (a := dt) (xs := xs) (fun i σ H1 => ∃ v2 : Option V, σ = [some (.ref h), some (.ref R), v2, none, none, none] ∧ H1 R = some (.lst (((ds.take i).map fun d => rowS (wordsD d)).map V.str)) ∧ Same H H1)
    ⟨none, rfl, upd_same, s0⟩ (fun i σ H1 _ ⟨_, _, _, s1⟩ => SqT.of (s1 _ _ hdt)) ?_ ?_⟩
  · rintro i x σ H1 hx ⟨v2, rfl, e1, s1⟩
    obtain ⟨d, hd, trd⟩ := ald.get hx
    have il : i < ds.length := (List.getElem?_eq_some_iff.mp hd).1
    have dg := hg.dials d (List.mem_of_getElem? hd)
    obtain ⟨b, nm, way, lo, hi, up, dn, rfl, hb, _, _, _, _, ed⟩ := dial_tup (trd.same s1) dg
    have wk := wordsD_ok dg
    rw [ed] at dg
    have pts : Paired (PartAt H1) [V.str nm, V.int lo, V.int hi, V.str way, V.int up, V.int dn] [nm, numS lo, numS hi, way, numS up, numS dn] := by
      obtain ⟨nm', way', lo', hi', up', dn', e, q1, _, q2, c1, c2, c3, c4, c5, c6, c7⟩ := dg
      cases e
      have gr : greatS = 100000000000000000000 := rfl
      have fr : farS = 1000000000000000000 := rfl
      exact .cons (.str q1) (.cons (.int (by omega) (by omega)) (.cons (.int (by omega) (by omega)) (.cons (.str (way_nm q2)) (.cons (.int (by omega) (by omega)) (.cons (.int (by omega) (by omega)) .nil)))))
    refine ⟨_, rfl, .inl ⟨rfl, _, SqL.of e1⟩, ⟨_, rfl⟩, by show 1 ≤ sizeLine; omega, fun L1 n1 => ?_⟩
    have sA := sameNew n1 (.lst [V.str "dial"])
    have hL1 : L2.upd H1 L1 (.lst [V.str "dial"]) L1 = some (.lst [V.str "dial"]) := upd_same
    have hb2 := sA _ _ hb
    have s2 := s1.trans sA
    have e2 := sA _ _ e1
    generalize L2.upd H1 L1 (.lst [V.str "dial"]) = H2 at hL1 hb2 s2 e2
    refine ⟨_, rfl, b, rfl, ⟨_, SqT.of hb2⟩, fun D hD => lc_tup (K := K) (a := b) (xs := [V.str nm, V.int lo, V.int hi, V.str way, V.int up, V.int dn]) (fun j H3 => H3 D = some (.lst ((([nm, numS lo, numS hi, way, numS up, numS dn] : List Str).take j).map V.str)) ∧ Same H2 H3)
      ⟨upd_same, sameNew hD _⟩ (fun j H3 _ ⟨_, s3⟩ => SqT.of (s3 _ _ hb2)) ?_ ?_⟩
    · rintro j y H3 hy ⟨e3, s3⟩
      obtain ⟨t, ht, pt⟩ := paired_get pts hy
      have jl : j < 6 := (List.getElem?_eq_some_iff.mp ht).1
      have fin : ∃ acc, H3 D = some (.lst acc) ∧ acc.length < sizeLine ∧ L2.upd H3 D (.lst (acc ++ [V.str t])) D = some (.lst ((([nm, numS lo, numS hi, way, numS up, numS dn] : List Str).take (j + 1)).map V.str)) ∧ Same H2 (L2.upd H3 D (.lst (acc ++ [V.str t]))) := by
        refine ⟨_, e3, small1000 (by rw [List.length_map, List.length_take]; omega), ?_, fun c o e => ?_⟩
        · rw [upd_same, take_more ht, List.map_append]
          rfl
        · rw [upd_ne (ne_of_none e hD)]
          exact s3 _ _ e
      refine ⟨rfl, _, rfl, ?_⟩
      cases pt with
      | str _ => exact .inr ⟨_, rfl, fin⟩
      | int q1 q2 => exact .inl ⟨_, rfl, log_n q1 q2, fin⟩
      | @say p z so i' q =>
        exfalso
        have : ∀ v ∈ [V.str nm, V.int lo, V.int hi, V.str way, V.int up, V.int dn], ∀ p, v ≠ V.ref p := by
          intro v hv p
          simp only [List.mem_cons, List.not_mem_nil, or_false] at hv
          rcases hv with rfl | rfl | rfl | rfl | rfl | rfl <;> exact fun z => by cases z
        exact this _ (List.mem_of_getElem? hy) p rfl
    · rintro H3 ⟨e3, s3⟩
      have e3' : H3 D = some (.lst ([nm, numS lo, numS hi, way, numS up, numS dn].map V.str)) := e3
      refine ⟨L1, D, _, _, rfl, rfl, s3 _ _ hL1, e3', by show 1 + 6 ≤ sizeLine; omega, fun l hl => ?_⟩
      have sB := sameNew hl (.lst ([V.str "dial"] ++ [nm, numS lo, numS hi, way, numS up, numS dn].map V.str))
      have wk1 : ∀ x ∈ wordsD (.tuple [.str nm, .int lo, .int hi, .str way, .int up, .int dn]), wordOk x := by rw [← ed]; exact wk.1
      refine ⟨_, l, wordsD (.tuple [.str nm, .int lo, .int hi, .str way, .int up, .int dn]), rfl, rfl, .inl (SqL.of upd_same), ?_, ?_⟩
      · have q := sum_len (n := 60) fun x hx => (wk1 x hx).1
        rw [b1]
        have e7 : (wordsD (.tuple [.str nm, .int lo, .int hi, .str way, .int up, .int dn])).length = 7 := rfl
        rw [e7] at q ⊢
        omega
      have eR := sB _ _ (s3 _ _ e2)
      refine ⟨R, _, _, rfl, rfl, eR, small1000 (by simp; omega), ⟨_, rfl, ?_, fun c o e => ?_⟩⟩
      · rw [upd_same, take_more hd, List.map_append, List.map_append, ed]
        rfl
      · rw [upd_ne (ne_of_none e nR)]
        exact sB _ _ (s3 _ _ (s2 _ _ e))
  · rintro σ H1 ⟨v2, rfl, e1, s1⟩
    rw [dl, List.take_length] at e1
    refine ⟨_, rfl, h, _, _, _, rfl, rfl, SqT.of (s1 _ _ hh), rfl, rt, rfl, ⟨_, SqT.of (s1 _ _ hrt)⟩, for_tup (K := K) (a := rt) (xs := ys) (fun i σ H2 => ∃ v4 v5 : Option V, σ = [some (.ref h), some (.ref R), v2, none, v4, v5] ∧ H2 R = some (.lst (((ds.map fun d => rowS (wordsD d)) ++ (rs.take i).map fun r => rowS (wordsR r)).map V.str)) ∧ Same H H2)
      ⟨none, none, rfl, by rw [List.take_zero, List.map_nil, List.append_nil]; exact e1, s1⟩ (fun i σ H2 _ ⟨_, _, _, _, s2⟩ => SqT.of (s2 _ _ hrt)) ?_ ?_⟩
    · rintro i x σ H2 hx ⟨v4, v5, rfl, e2, s2⟩
      obtain ⟨r, hr', trr⟩ := alr.get hx
      have il : i < rs.length := (List.getElem?_eq_some_iff.mp hr').1
      have rm := List.mem_of_getElem? hr'
      obtain ⟨a, rfl, ra⟩ := rule_at hg rm (trr.same s2)
      obtain ⟨zs, ha, pts, zl⟩ := rule_parts ra
      have pl := pts.length
      refine ⟨_, rfl, a, rfl, ⟨_, SqT.of ha⟩, fun D hD => lc_tup (K := K) (a := a) (xs := zs) (fun j H3 => H3 D = some (.lst (((wordsR r).take j).map V.str)) ∧ Same H2 H3)
        ⟨upd_same, sameNew hD _⟩ (fun j H3 _ ⟨_, s3⟩ => SqT.of (s3 _ _ ha)) ?_ ?_⟩
      · rintro j y H3 hy ⟨e3, s3⟩
        obtain ⟨t, ht, pt⟩ := paired_get pts hy
        have jl : j < (wordsR r).length := (List.getElem?_eq_some_iff.mp ht).1
        have fin : ∀ H4, Same H3 H4 → ∃ acc, H4 D = some (.lst acc) ∧ acc.length < sizeLine ∧ L2.upd H4 D (.lst (acc ++ [V.str t])) D = some (.lst (((wordsR r).take (j + 1)).map V.str)) ∧ Same H2 (L2.upd H4 D (.lst (acc ++ [V.str t]))) := fun H4 s4 => by
          refine ⟨_, s4 _ _ e3, small1000 (by rw [List.length_map, List.length_take]; omega), ?_, fun c o e => ?_⟩
          · rw [upd_same, take_more ht, List.map_append]
            rfl
          · rw [upd_ne (ne_of_none e hD)]
            exact s4 _ _ (s3 _ _ e)
        cases pt with
        | str q => exact ⟨rfl, _, rfl, _, "tuple", .str t, isTup, rfl, kT, .str t, _, rfl, iteF ⟨_, rfl, .inr ⟨_, rfl, fin H3 (Same.refl _)⟩⟩⟩
        | @int i' q1 q2 => exact ⟨rfl, _, rfl, _, "tuple", .int i', isTup, rfl, kT, .int i', _, rfl, iteF ⟨_, rfl, .inl ⟨_, rfl, log_n q1 q2, fin H3 (Same.refl _)⟩⟩⟩
        | @say p z so i' q =>
          have q3 : SayAt H3 p z so i' := ⟨s3 _ _ q.1, q.2⟩
          exact ⟨rfl, _, rfl, _, "tuple", .tuple [.str z, .str so, .int i'], isTup, rfl, kT, .tup q3.1 (.cons (.str _) (.cons (.str _) (.cons (.int _) .nil))), _, rfl, iteT ⟨_, rfl, p, z, so, i', rfl, q3, fun H4 s4 => fin H4 s4⟩⟩
      · rintro H3 ⟨e3, s3⟩
        rw [pl, List.take_length] at e3
        obtain ⟨wk1, wk2, wk3⟩ := wordsR_ok hg rm
        have e4 := s3 _ _ e2
        refine ⟨_, rfl, .inl ⟨rfl, _, SqL.of e4⟩, ⟨_, rfl⟩, _, rfl, _, D, wordsR r, rfl, rfl, .inl (SqL.of e3), ?_, ?_⟩
        · have q := sum_len (n := 60) fun x hx => (wk1 x hx).1
          rw [b1]
          have : (wordsR r).length * 60 ≤ 4 * 60 := Nat.mul_le_mul_right _ wk3
          omega
        refine ⟨R, _, _, rfl, rfl, e4, small1000 (by simp; omega), ⟨_, _, rfl, ?_, fun c o e => ?_⟩⟩
        · rw [upd_same, take_more hr', List.map_append, List.map_append, List.map_append, List.map_append, List.append_assoc]
          rfl
        · rw [upd_ne (ne_of_none e nR)]
          exact s3 _ _ (s2 _ _ e)
    · rintro σ H2 ⟨v4, v5, rfl, e2, s2⟩
      rw [rl, List.take_length] at e2
      exact ⟨⟨_, rfl⟩, _, rfl, _, R, rowsH ds rs, rfl, rfl, .inl (SqL.of e2), rows_sum hg, k H2 s2⟩
end
end Pk
end
section
set_option maxHeartbeats 4000000
/-! The law. -/
namespace Pk
open PySem PySem.Spec PyProof.Rows L2 TL
abbrev sLaw72 : Stmt := topH 61
def spLaw (K : PySem.W.Frag) (cs : List (Addr × Addr)) : Sp := fun vs H Q _ => ∃ (a : Addr) (ns : List Int), vs = [.ref a] ∧ SqL K H a (ns.map V.int) ∧ ns.length ≤ 63 ∧ (∀ p ∈ cs, GxR.TabG H p.2) ∧ ∀ H', Q (.bl true) H'
/-- all that the law calls -/
structure Defs (P : Program) (w : World) (K : PySem.W.Frag) (mg : Str → Option Value) (base : Heap) (Ps : List Addr) : Prop where
  pen : ∃ f d, FnOk P w K mg base CX0 1 f d ["_law_script"] (spPenL K) ∧ Binds K d ["_law_script"] [] ∧ PySem.W.keepIn K (.ref f) = true ∧ mg "_law_pen" = some (.ref f)
  draw : ∃ f d, FnOk P w K mg base CX0 1 f d ["_law_pen_here", "_law_many"] spDrawC ∧ Binds K d ["_law_pen_here", "_law_many"] [] ∧ PySem.W.keepIn K (.ref f) = true ∧ mg "_law_draw" = some (.ref f)
  pick : ∃ f d, FnOk P w K mg base CX0 2 f d ["_law_pen_here", "_law_lot"] spPick ∧ Binds K d ["_law_pen_here", "_law_lot"] [] ∧ PySem.W.keepIn K (.ref f) = true ∧ mg "_law_pick" = some (.ref f)
  house : ∃ f d, FnOk P w K mg base CX0 5 f d ["_law_pen_here", "_law_many", "_law_wide", "_law_rules"] spHouseW ∧ Binds K d ["_law_pen_here", "_law_many", "_law_wide", "_law_rules"] [] ∧ PySem.W.keepIn K (.ref f) = true ∧ mg "_law_house" = some (.ref f)
  shown : ∃ f d, FnOk P w K mg base CX0 2 f d ["_law_house_here"] spLShow ∧ Binds K d ["_law_house_here"] [] ∧ PySem.W.keepIn K (.ref f) = true ∧ mg "_law_show_house" = some (.ref f)
  bent : ∃ f d, FnOk P w K mg base CX0 3 f d ["_law_pen_here", "_law_text"] spLBent ∧ Binds K d ["_law_pen_here", "_law_text"] [] ∧ PySem.W.keepIn K (.ref f) = true ∧ mg "_law_bent" = some (.ref f)
  told : ∃ f d, FnOk P w K mg base CX0 8 f d ["_law_text"] (spLTold Ps) ∧ Binds K d ["_law_text"] [] ∧ PySem.W.keepIn K (.ref f) = true ∧ mg "_law_told" = some (.ref f)
  due : ∃ f d, FnOk P w K mg base CX0 4 f d ["_law_text"] spLDue ∧ Binds K d ["_law_text"] [] ∧ PySem.W.keepIn K (.ref f) = true ∧ mg "_law_due" = some (.ref f)
abbrev nLaw : List Str := ["_law_script", "_law_pen_here", "_law_turn", "_law_house_here", "_law_numbers_here", "_law_texts", "_law_again", "_law_text"]
theorem scLaw : FnScope nLaw ["_law_script"] (defScope sLaw72) := ⟨rfl, rfl, rfl, by decide +kernel, rfl, by decide +kernel, by decide +kernel⟩
theorem zn1_tabs {Ps : List Addr} {H : Hp} {p c : Addr} {n : Int} (t : Tabs Ps H) (P : PenC H p c n) : Tabs Ps (zn [p] H) := fun Q hQ => by
  obtain ⟨ps, h1, h2⟩ := t Q hQ
  refine ⟨ps, ?_, h2⟩
  rw [zn_out fun z => ?_]
  · exact h1
  · obtain ⟨kv, hp⟩ := P.atp
    rw [List.mem_singleton.mp z, hp] at h1
    cases h1
theorem zn1_grs {Ps : List Addr} {H H' : Hp} {p c : Addr} {n : Int} (t : Tabs Ps H) (P : PenC H p c n) (g : GrS Ps H H') : GrS Ps (zn [p] H) (zn [p] H') := by
  refine ⟨zn1_tabs g.1 (P.grs t g), fun b o hb e => ?_⟩
  obtain ⟨h1, h2⟩ := zn_some e
  rw [zn_out h1]
  exact g.2 b o hb h2
theorem Tr.zg {Ps : List Addr} {H H' : Hp} {p c : Addr} {n : Int} {x : V} {d : PyData} (h : Tr (zn [p] H) x d) (t : Tabs Ps H) (P : PenC H p c n) (g : GrS Ps H H') : Tr (zn [p] H') x d := h.grs (zn1_tabs t P) (zn1_grs t P g)
/-- what stands between two steps of the law -/
structure Lw (Ps : List Addr) (H : Hp) (p c h : Addr) (N : Int) (ds rs : List PyData) : Prop where
  pen : PenC H p c N
  tb : Tabs Ps H
  th : Tr (zn [p] H) (.ref h) (.tuple [.tuple ds, .tuple rs])
theorem Lw.same {Ps : List Addr} {H H' : Hp} {p c h : Addr} {N : Int} {ds rs : List PyData} (l : Lw Ps H p c h N ds rs) (s : Same H H') : Lw Ps H' p c h N ds rs := ⟨l.pen.same s, l.tb.same s, l.th.same (zn_mono s)⟩
theorem Lw.sb {Ps : List Addr} {H H' : Hp} {p c h : Addr} {N M : Int} {ds rs : List PyData} (l : Lw Ps H p c h N ds rs) (s : Sb p H H') (P : PenC H' p c M) : Lw Ps H' p c h M ds rs := ⟨P, l.tb.sb l.pen s, l.th.same (zn_sb s List.mem_cons_self)⟩
theorem Lw.grs {Ps : List Addr} {H H' : Hp} {p c h : Addr} {N : Int} {ds rs : List PyData} (l : Lw Ps H p c h N ds rs) (g : GrS Ps H H') : Lw Ps H' p c h N ds rs := ⟨l.pen.grs l.tb g, g.1, l.th.zg l.tb l.pen g⟩
theorem Lw.al {Ps : List Addr} {H : Hp} {p c h : Addr} {N : Int} {ds rs : List PyData} (l : Lw Ps H p c h N ds rs) : Al p [p] H := l.pen.al
theorem noL_house {ds rs : List PyData} (hg : HouseG ds rs) : noL (.tuple [.tuple ds, .tuple rs]) = true := by
  have all : ∀ l : List PyData, (∀ d ∈ l, noL d = true) → noLs l = true := by
    intro l
    induction l with
    | nil => intro _; rfl
    | cons d l ih =>
      intro h
      rw [noLs, h d List.mem_cons_self, ih fun e he => h e (List.mem_cons_of_mem _ he)]
      rfl
  have h1 : noLs ds = true := all ds fun d hd => by
    obtain ⟨nm, way, lo, hi, up, dn, rfl, _⟩ := hg.dials d hd
    rfl
  have h2 : noLs rs = true := all rs fun r hr => by
    rcases rule_shape hg hr with ⟨z1, so1, z2, so2, i1, i2, rfl, _⟩ | ⟨w, a, b, c, rfl, _⟩ <;> rfl
  show (noLs ds && (noLs rs && true)) = true
  rw [h1, h2]
  rfl
theorem zn1_upd {p T : Addr} {H : Hp} {o : HO} (h : T ≠ p) : zn [p] (L2.upd H T o) = L2.upd (zn [p] H) T o := by
  funext b
  by_cases e : b = T
  · subst e
    rw [upd_same, zn_out (fun z => h (List.mem_singleton.mp z)), upd_same]
  · rw [upd_ne e]
    by_cases q : b = p
    · subst q
      unfold zn
      simp
    · rw [zn_out (fun z => q (List.mem_singleton.mp z)), zn_out (fun z => q (List.mem_singleton.mp z)), upd_ne e]
theorem Lw.updT {Ps : List Addr} {H : Hp} {p c h T : Addr} {N : Int} {ds rs : List PyData} {xs ys : List V} (l : Lw Ps H p c h N ds rs) (hg : HouseG ds rs) (Tp : T ≠ p) (Tc : T ≠ c) (hT : H T = some (.lst xs)) : Lw Ps (L2.upd H T (.lst ys)) p c h N ds rs := by
  refine ⟨l.pen.upd Tp Tc _, fun Q hQ => ?_, ?_⟩
  · obtain ⟨ps, e, r⟩ := l.tb Q hQ
    exact ⟨ps, by rw [upd_ne (fun z => by rw [z, hT] at e; cases e)]; exact e, r⟩
  · rw [zn1_upd Tp]
    exact l.th.keepL (by rw [zn_out (fun z => Tp (List.mem_singleton.mp z))]; exact hT) (noL_house hg)
/-- how long the texts may be after j bends -/
def Bd : Nat → Nat
  | 0 => 22256
  | k + 1 => 3 * Bd k + 100
theorem bd_small : ∀ j, j ≤ 6 → Bd j ≤ 16270000 ∧ (j ≤ 5 → Bd j ≤ 5430000) := by
  intro j hj
  have : j = 0 ∨ j = 1 ∨ j = 2 ∨ j = 3 ∨ j = 4 ∨ j = 5 ∨ j = 6 := by omega
  rcases this with rfl | rfl | rfl | rfl | rfl | rfl | rfl <;> simp [Bd]
theorem house_short {ds rs : List PyData} (hg : HouseG ds rs) : (houseS ds rs).length ≤ 22256 := by
  have q := len_join (y := "\n") (rows_len hg)
  have n := rows_num hg
  have e : ("\n" : Str).length = 1 := by decide +kernel
  rw [e] at q
  have : (rowsH ds rs).length * (427 + 1) ≤ 52 * 428 := Nat.mul_le_mul_right _ n
  show (Txt.join "\n" (rowsH ds rs)).length ≤ _
  omega
section
variable {P : Program} {w : World} {K : PySem.W.Frag} {mg : Str → Option Value} {base : Heap} {Ps : List Addr}
theorem ok_law {f : Addr} {fd : FuncData} {cs : List (Addr × Addr)} (hcs : cs.map (·.2) = Ps) (F : Fun K "law" "law" sLaw72 f fd) (Z : Defs P w K mg base Ps) (B : Blt mg) (mRe : mg "repr" = none) : FnG P w K mg base 18 f fd ["_law_script"] (spLaw K cs) := by
  refine Fun.okG F scLaw (fun vs H Q E h => ?_) (fun cdv A outer s H vs Q E hgd hr h => ?_)
  · obtain ⟨a, ns, rfl, _⟩ := h
    rfl
  obtain ⟨a, ns, rfl, hS, hl, htab0, k⟩ := h
  have htab : Tabs Ps H := fun P hP => by
    rw [← hcs] at hP
    obtain ⟨q, hq, rfl⟩ := List.mem_map.mp hP
    exact htab0 q hq
  obtain ⟨fP, dP, GP, bP, kP, mP⟩ := Z.pen
  obtain ⟨fD, dD, GD, bD, kD, mD⟩ := Z.draw
  obtain ⟨fK, dK, GK, bK, kK, mK⟩ := Z.pick
  obtain ⟨fH, dH, GH, bH, kH, mH⟩ := Z.house
  obtain ⟨fS, dS, GS, bS, kS, mS⟩ := Z.shown
  obtain ⟨fB, dB, GB, bB, kB, mB⟩ := Z.bent
  obtain ⟨fT, dT, GT, bT, kT, mT⟩ := Z.told
  obtain ⟨fU, dU, GU, bU, kU, mU⟩ := Z.due
  have hr1 : Room 1 _ := hr.mono (by decide)
  have hr2 : Room 2 _ := hr.mono (by decide)
  have hr3 : Room 3 _ := hr.mono (by decide)
  have hr4 : Room 4 _ := hr.mono (by decide)
  have hr5 : Room 5 _ := hr.mono (by decide)
  have hr8 : Room 8 _ := hr.mono (by decide)
  have h100 : (A.deeper (PyProof.Rows.envOfC "law" (defScope sLaw72) s.heap.objs.size f cdv)).units + 100 < cLine := by
    have := hr.un
    omega
  have hu64 : (A.deeper (PyProof.Rows.envOfC "law" (defScope sLaw72) s.heap.objs.size f cdv)).units + 64 < cLine := by omega
  have hu := hu_of hr
  have hgd' : (A.deeper (PyProof.Rows.envOfC "law" (defScope sLaw72) s.heap.objs.size f cdv)).guards = some [] := hgd
  refine ⟨_, pss_cons (ps_set (i := 1) scLaw.nd rfl (.inl rfl) (pe_call GP hr1 rfl mP kP bP .nil pass0 (pa_cons (pv 0) pa_nil))) <|
    pss_cons (ps_for PassesOwn.never rfl (pi_range1 (by rfl) B.range (pa_cons pe_int pa_nil)) (pg_name (i := 2) scLaw.nd rfl (Or.inl rfl))
      (pss_cons (ps_asg (pe_call GH hr5 rfl mH kH bH .nil pass0 (pa_cons (pv 1) (pa_cons (pe_op op_add pe_int (pe_call GD hr1 rfl mD kD bD .nil pass0 (pa_cons (pv 1) (pa_cons pe_int pa_nil)))) (pa_cons (pe_call GK hr2 rfl mK kK bK .nil pass0 (pa_cons (pv 1) (pa_cons (pe_lst (pa_cons pe_int (pa_cons (pe_op op_pow pe_int pe_int) pa_nil))) pa_nil))) (pa_cons (pe_call GD hr1 rfl mD kD bD .nil pass0 (pa_cons (pv 1) (pa_cons pe_int pa_nil))) pa_nil))))) (pg_tup (by rfl) (pgs_cons (pg_name (i := 3) scLaw.nd rfl (.inl rfl)) <| pgs_cons (pg_name (i := 4) scLaw.nd rfl (.inl rfl)) pgs_nil))) <|
       pss_cons (ps_set (i := 5) scLaw.nd rfl (.inl rfl) (pe_lst (pa_cons (pe_call GS hr2 rfl mS kS bS .nil pass0 (pa_cons (pv 3) pa_nil)) pa_nil))) <|
       pss_cons (ps_for PassesOwn.never rfl (pi_range1 (by rfl) B.range (pa_cons pe_int pa_nil)) (pg_name (i := 6) scLaw.nd rfl (Or.inl rfl))
         (pss_one (ps_expr (pe_bm PySem.F.plainAttrs_list PySem.F.slot_list_append PySem.F.type_list_append mt_append (pv 5) (pa_cons (pe_call GB hr3 rfl mB kB bB .nil pass0 (pa_cons (pv 1) (pa_cons (pe_call GK hr2 rfl mK kK bK .nil pass0 (pa_cons (pv 1) (pa_cons (pv 5) pa_nil))) pa_nil))) pa_nil))))) <|
       pss_cons (ps_for PassesOwn.never rfl (pi_list (pv 5)) (pg_name (i := 7) scLaw.nd rfl (Or.inl rfl))
         (pss_one (ps_if (pt_cmpR op_ne (pe_callB (call_reprT hgd' h100) (by rfl) mRe (by decide +kernel) (pa_cons (pe_call GT hr8 rfl mT kT bT .nil pass0 (pa_cons (pv 7) pa_nil)) pa_nil)) (pe_callB (call_reprT hgd' h100) (by rfl) mRe (by decide +kernel) (pa_cons (pe_call GU hr4 rfl mU kU bU .nil pass0 (pa_cons (pv 7) pa_nil)) pa_nil)) (nomark _)) (pss_one (ps_ret pe_bl)) pss_nil))) <|
       pss_one (ps_if (pt_cmpR (op_neD hu64) (pe_call GT hr8 rfl mT kT bT .nil pass0 (pa_cons (pe_call GK hr2 rfl mK kK bK .nil pass0 (pa_cons (pv 1) (pa_cons (pe_lst (pa_cons pe_non (pa_cons pe_int (pa_cons (pe_lst pa_nil) (pa_cons pe_dnewK (pa_cons (pv 3) (pa_cons pe_bl (pa_cons (pe_tup (pa_cons pe_str pa_nil)) pa_nil)))))))) pa_nil))) pa_nil)) (pe_tup (pa_cons pe_str (pa_cons pe_int pa_nil))) (nomark _)) (pss_one (ps_ret pe_bl)) pss_nil))) <|
    pss_one (ps_ret pe_bl), ?_⟩
  have fg := farG
  have sl := PySem.sizeLine_eq
  have e18 : (10 : Int) ^ (18 : Int).toNat = 1000000000000000000 := ints10
  refine ⟨_, rfl, a, ns, rfl, hS, hl, fun p c H1 pen1 s1 => ?_⟩
  refine ⟨8, rfl, by decide, by decide, for_range (n := 8) (fun i σ H2 => ∃ v2 v3 v4 v5 v6 v7 : Option V, σ = [some (.ref a), some (.ref p), v2, v3, v4, v5, v6, v7] ∧ PenC H2 p c (5000 * i) ∧ Tabs Ps H2)
    ⟨none, none, none, none, none, none, rfl, pen1.mono (by omega), htab.same s1⟩ ?_ ?_⟩
  rotate_left
  · rintro σ H2 ⟨v2, v3, v4, v5, v6, v7, rfl, pen2, tb2⟩
    exact k H2
  rintro i σ H2 hi ⟨v2, v3, v4, v5, v6, v7, rfl, pen2, tb2⟩
  rw [Int.zero_add]
  -- the house
  refine ⟨_, rfl, _, rfl, p, c, _, _, rfl, pen2, by omega, by decide, by decide, fun w1 Ha a1 a2 penA sbA => ?_⟩
  refine ⟨_, _, rfl, rfl, _, rfl, _, _, rfl, rfl, ⟨by decide, by decide, by decide⟩, by show 2 ≤ PySem.sizeLine; decide, fun e he => ?_⟩
  have tbA := tb2.sb pen2 sbA
  have sE := sameNew he (.lst [V.int 3, V.int (10 ^ (18 : Int).toNat)])
  refine .inl ⟨p, c, e, _, _, rfl, penA.same sE, by omega, penA.newp he, .inl upd_same, by simp, by simp, fun x Hb hx penB sbB => ?_⟩
  have tbB := (tbA.same sE).sb (penA.same sE) sbB
  obtain ⟨wd, rfl, wd1, wd2⟩ : ∃ wd : Int, x = .int wd ∧ 0 ≤ wd ∧ wd ≤ 1000000000000000000 := by
    simp only [List.mem_cons, List.not_mem_nil, or_false] at hx
    rcases hx with rfl | rfl
    · exact ⟨3, rfl, by decide, by decide⟩
    · exact ⟨_, rfl, by rw [e18]; decide, by rw [e18]; decide⟩
  refine ⟨_, rfl, p, c, _, _, rfl, penB, by omega, by decide, by decide, fun w2 Hc a3 a4 penC sbC => ?_⟩
  have tbC := tbB.sb penB sbC
  refine ⟨p, c, [p], _, wd, w2, (1 + w1).toNat, by show [V.ref p, V.int (1 + w1), V.int wd, V.int w2] = _; rw [show (((1 + w1).toNat : Nat) : Int) = 1 + w1 by omega], wd1, wd2, penC, penC.al, by omega, by omega, by omega, a3, by omega, fun t h y ds rs is Hd penD sbD ht tp th hy yX il ib hg spn isp => ?_⟩
  refine ⟨t, _, rfl, SqT.of ht, rfl, _, _, rfl, _, _, rfl, rfl, ?_⟩
  have L0 : Lw Ps Hd p c h _ ds rs := ⟨penD, tbC.sb penC sbD, th⟩
  clear sbA sbB sbC sbD penA penB penC hx tbA tbB tbC sE he
  refine ⟨_, rfl, h, ds, rs, rfl, L0.th.same zn_le, hg, fun He sE => ⟨by show 1 ≤ PySem.sizeLine; decide, fun T nT => ?_⟩⟩
  have L1 := (L0.same sE).same (sameNew nT (.lst [V.str (houseS ds rs)]))
  have Tp : T ≠ p := (L0.same sE).pen.newp nT
  have Tc : T ≠ c := (L0.same sE).pen.newc nT
  have hT : L2.upd He T (.lst [V.str (houseS ds rs)]) T = some (.lst ([houseS ds rs].map V.str)) := upd_same
  generalize L2.upd He T (.lst [V.str (houseS ds rs)]) = Hf at L1 hT
  clear L0 sE nT
  have hs := house_short hg
  -- the bends
  refine ⟨6, rfl, by decide, by decide, for_range (n := 6) (fun j σ H3 => ∃ (v6 v7 : Option V) (ts : List Str), σ = [some (.ref a), some (.ref p), some (.int (i : Nat)), some (.ref h), some (.ref y), some (.ref T), v6, v7] ∧ Lw Ps H3 p c h (5000 * i + 3003 + 21 * j) ds rs ∧ H3 T = some (.lst (ts.map V.str)) ∧ ts.length = j + 1 ∧ ∀ z ∈ ts, z.length ≤ Bd j)
    ⟨v6, v7, [houseS ds rs], rfl, ⟨L1.pen.mono (by omega), L1.tb, L1.th⟩, hT, rfl, fun z hz => by rw [List.mem_singleton.mp hz]; exact hs⟩ ?_ ?_⟩
  · rintro j σ H3 hj ⟨v6, v7, ts, rfl, L3, hT3, tl3, tz⟩
    obtain ⟨b1, b2⟩ := bd_small j (by omega)
    have b2 := b2 (by omega)
    refine ⟨_, rfl, .inl ⟨rfl, _, SqL.of hT3⟩, _, rfl, _, rfl, _, rfl, .inl ⟨p, c, T, _, _, rfl, L3.pen, by omega, Tp, .inl hT3, by rw [List.length_map]; omega, by rw [List.length_map]; omega, fun xx Ha hx penA sbA => ?_⟩⟩
    obtain ⟨z, hz, rfl⟩ := List.mem_map.mp hx
    have zl := tz z hz
    refine ⟨p, c, _, z, rfl, penA, by omega, by omega, fun y' Hb penB sbB hy' => ?_⟩
    have hTb := sbB.to Tp (sbA.to Tp hT3)
    have L4 := (L3.sb sbA penA).sb sbB penB
    refine ⟨T, _, _, rfl, rfl, hTb, by rw [List.length_map]; omega, ?_⟩
    have L5 := L4.updT (ys := ts.map V.str ++ [V.str y']) hg Tp Tc hTb
    refine ⟨_, _, ts ++ [y'], rfl, ⟨L5.pen.mono (by omega), L5.tb, L5.th⟩, by rw [upd_same, List.map_append]; rfl, by rw [List.length_append, tl3]; rfl, fun u hu => ?_⟩
    have bs : Bd (j + 1) = 3 * Bd j + 100 := rfl
    rcases List.mem_append.mp hu with hu | hu
    · have := tz u hu
      omega
    · rw [List.mem_singleton.mp hu]
      omega
  · rintro σ H3 ⟨v6, v7, ts, rfl, L3, hT3, tl3, tz⟩
    obtain ⟨b1, _⟩ := bd_small 6 (by omega)
    -- each text
    refine ⟨_, rfl, T, rfl, ⟨_, SqL.of hT3⟩, for_list (K := K) (a := T) (xs := ts.map V.str) (fun j σ H4 => ∃ v7 : Option V, σ = [some (.ref a), some (.ref p), some (.int (i : Nat)), some (.ref h), some (.ref y), some (.ref T), v6, v7] ∧ Lw Ps H4 p c h (5000 * i + 3003 + 21 * 6) ds rs ∧ H4 T = some (.lst (ts.map V.str)))
      ⟨v7, rfl, ⟨L3.pen.mono (by omega), L3.tb, L3.th⟩, hT3⟩ (fun j σ H4 _ ⟨_, _, _, q⟩ => SqL.of q) ?_ ?_⟩
    · rintro j x σ H4 hx ⟨v7', rfl, L4, hT4⟩
      obtain ⟨z, rfl, hz⟩ := strs_get hx
      have zl := tz z (List.mem_of_getElem? hz)
      have zl' : z.length + 16 ≤ PySem.sizeLine := by
        have : Bd 6 ≤ 16270000 := b1
        omega
      obtain ⟨r1, r2, r3⟩ := told_rep zl'
      refine ⟨_, rfl, _, .str z, rfl, .str z, L4.tb, fun u e => by cases e; omega, fun v H5 g5 tv => ?_⟩
      have tv : Tr H5 v (toldP (readX z)) := tv
      have L5 := L4.grs g5
      have hT5 := g5.at L4.tb hT4 (by intro q z; cases z)
      refine ⟨v, _, rfl, tv, r1, r2, r3, _, rfl, z, rfl, zl', fun v' H6 s6 tv' => ?_⟩
      have L6 := L5.same s6
      refine ⟨v', _, rfl, tv', r1, r2, r3, rfl, _, rfl, ?_⟩
      rw [decide_eq_true rfl]
      exact iteF ⟨_, rfl, L6, s6 _ _ hT5⟩
    rintro σ H4 ⟨v7', rfl, L4, hT4⟩
    clear hT3 L3 tz
    refine ⟨_, rfl, by show 0 ≤ PySem.sizeLine; omega, fun l1 n1 => ?_⟩
    generalize f1 : L2.upd H4 l1 _ = H5
    have s5 : Same H4 H5 := by rw [← f1]; exact sameNew n1 _
    have hl1 : H5 l1 = some (.lst []) := by rw [← f1]; exact upd_same
    have l1p := L4.pen.newp n1
    intro d1 n2
    have d1p := (L4.same s5).pen.newp n2
    generalize f2 : L2.upd H5 d1 _ = H6
    have s6 : Same H5 H6 := by rw [← f2]; exact sameNew n2 _
    have hd1 : H6 d1 = some (.dK []) := by rw [← f2]; exact upd_same
    refine ⟨_, rfl, by show 1 ≤ PySem.sizeLine; omega, fun t1 n3 => ?_⟩
    have t1p := ((L4.same s5).same s6).pen.newp n3
    generalize f3 : L2.upd H6 t1 _ = H7
    have s7 : Same H6 H7 := by rw [← f3]; exact sameNew n3 _
    have ht1 : H7 t1 = some (.tup [V.str "dial a 0 1 both 1 1"]) := by rw [← f3]; exact upd_same
    have L7 := ((L4.same s5).same s6).same s7
    refine ⟨by show 7 ≤ PySem.sizeLine; omega, fun LL nL => ?_⟩
    have LLp := L7.pen.newp nL
    generalize f4 : L2.upd H7 LL _ = H8
    have s8 : Same H7 H8 := by rw [← f4]; exact sameNew nL _
    have hLL : H8 LL = some (.lst [V.non, V.int 7, V.ref l1, V.ref d1, V.ref h, V.bl true, V.ref t1]) := by rw [← f4]; exact upd_same
    have L8 := L7.same s8
    refine .inl ⟨p, c, LL, _, _, rfl, L8.pen, by omega, LLp, .inl hLL, by simp, by simp, fun xx H9 hx pen9 sb9 => ?_⟩
    have L9 := L8.sb sb9 pen9
    have s68 := s7.trans s8
    obtain ⟨dd, td, rd, nt⟩ : ∃ dd, Tr H9 xx dd ∧ readT dd = .inl 0 ∧ ∀ z, dd ≠ .str z := by
      simp only [List.mem_cons, List.not_mem_nil, or_false] at hx
      rcases hx with rfl | rfl | rfl | rfl | rfl | rfl | rfl
      · exact ⟨_, .non, rfl, fun z e => by cases e⟩
      · exact ⟨_, .int 7, rfl, fun z e => by cases e⟩
      · exact ⟨_, .lst (sb9.to l1p (s68 _ _ (s6 _ _ hl1))) .nil, rfl, fun z e => by cases e⟩
      · exact ⟨.dict [], .dct (kvs := []) (es := []) (sb9.to d1p (s68 _ _ hd1)) List.nodup_nil rfl .nil, rfl, fun z e => by cases e⟩
      · exact ⟨_, L9.th.same zn_le, rfl, fun z e => by cases e⟩
      · exact ⟨_, .bl true, rfl, fun z e => by cases e⟩
      · exact ⟨_, .tup (sb9.to t1p (s8 _ _ ht1)) (.cons (.str _) .nil), rfl, fun z e => by cases e⟩
    refine ⟨xx, dd, rfl, td, L9.tb, fun z e => absurd e (nt z), fun v Hb gb tv => ?_⟩
    rw [rd] at tv
    have Lb := L9.grs gb
    have wl : (PyData.tuple [.str "row", .int 0]).canLay0 = true := by decide +kernel
    have wd : (PyData.tuple [.str "row", .int 0]).depth ≤ 2 := by decide +kernel
    refine ⟨by show 2 ≤ PySem.sizeLine; omega, fun t2 n4 => ?_⟩
    have s9 := sameNew n4 (.tup [V.str "row", V.int 0])
    refine ⟨.tuple [.str "row", .int 0], .tuple [.str "row", .int 0], Tr.dp (tv.same s9) (noDict_of wl), Tr.dp (.tup upd_same (.cons (.str _) (.cons (.int _) .nil))) (noDict_of wl), shaped_of wl (by omega), shaped_of wl (by omega), _, rfl, ?_⟩
    rw [show PyData.eqv (.tuple [.str "row", .int 0]) (.tuple [.str "row", .int 0]) = true by decide +kernel]
    have Le := Lb.same s9
    exact iteF ⟨_, _, _, _, _, _, rfl, Le.pen.mono (by omega), Le.tb⟩
end
end Pk
end
namespace Pk
open PySem L2
/-- a tuple of texts of the module's own top -/
def strsB (K : PySem.W.Frag) (a : Addr) (zs : List Str) : Bool := match K.lookup a with
  | some ⟨.type "tuple", _, .seq its _, _⟩ => decide (its.size ≤ 1000) && decide (its.toList.map absV = zs.map fun z => some (V.str z))
  | _ => false
theorem vals_abs : ∀ {zs : List Str} {us : List Value}, (us.map absV = zs.map fun z => some (V.str z)) → Vals (zs.map V.str) us
  | [], [], _ => .nil
  | [], _ :: _, h => by simp at h
  | _ :: _, [], h => by simp at h
  | z :: zs, u :: us, h => by
    rw [List.map_cons, List.map_cons, List.cons.injEq] at h
    refine .cons ?_ (vals_abs h.2)
    have h1 := h.1
    cases u with
    | str x t =>
      cases h1
      exact ⟨t, rfl⟩
    | _ => cases h1
theorem strsB_ok {K : PySem.W.Frag} {a : Addr} {zs : List Str} (h : strsB K a zs = true) (H : Hp) : SqT K H a (zs.map V.str) := by
  unfold strsB at h
  split at h
  · rename_i dd its n sl e
    rw [Bool.and_eq_true, decide_eq_true_eq, decide_eq_true_eq] at h
    exact .inr ⟨_, its, n, e, rfl, rfl, small h.1, vals_abs h.2⟩
  · cases h
/-- a def's table of code objects, read -/
theorem tab_in {K : PySem.W.Frag} {x : Str} {f c P : Addr} {oc oc2 : Value} {od od2 : Option Addr} {sl sl2 : Array (Option Value)} {fd : FuncData} {vs : Array Value} (a : PySem.W.nsIn K mainGlobals x = some (some (.ref f)))
    (l : K.lookup f = some ⟨oc, od, .func fd, sl⟩) (hc : fd.code = .ref c) (lc : K.lookup c = some ⟨oc2, od2, .fields vs, sl2⟩) (hv : vs[11]? = some (.ref P)) : PySem.W.tabIn K x = some (c, P) := by
  unfold PySem.W.tabIn
  rw [a]
  simp only
  rw [l]
  simp only
  rw [hc]
  simp only
  rw [lc]
  simp only
  rw [hv]
/-- a class with an own __init__, over ValueError -/
def oexB (K : PySem.W.Frag) (C : Addr) : Bool := match K.lookup C with
  | some ⟨.type "type", _, .cls cd, sx⟩ => (match cd.mro, sx.toList with
    | .ref C' :: bm, [_, _, _, _, some (.builtin n), _] => C' == C && (n == "ValueError.__new__" && (!cd.hasDel && (cd.hasDict && PySem.HandSPX.refsVE bm)))
    | _, _ => false)
  | _ => false
theorem oexB_ok {K : PySem.W.Frag} {C : Addr} (h : oexB K C = true) : ∃ nm q N bs bm sn sub ab col dd k0 k1 k2 k3 k5, K.lookup C = some (excClassObj nm q C N bs bm true sn sub ab col dd k0 k1 k2 k3 k5 "ValueError.__new__") ∧ PySem.HandSPX.refsVE bm = true := by
  unfold oexB at h
  split at h
  · rename_i dd cd sl ho
    split at h
    · rename_i Cz bm k0 k1 k2 k3 n k5 hm hs
      simp only [Bool.and_eq_true, beq_iff_eq, Bool.not_eq_true'] at h
      obtain ⟨rfl, rfl, e1, e2, e3⟩ := h
      obtain ⟨nm, bs, mro, N, q, hd, sn, sub, ab, col, del⟩ := cd
      dsimp only at hm e1 e2
      subst hm e1 e2
      have es : sl = #[k0, k1, k2, k3, some (.builtin "ValueError.__new__"), k5] := by
        obtain ⟨l⟩ := sl
        simp only at hs
        rw [hs]
      subst es
      exact ⟨nm, q, N, bs, bm, sn, sub, ab, col, dd, k0, k1, k2, k3, k5, ho, e3⟩
    · cases h
  · cases h
def oexCB (K : PySem.W.Frag) (C : Addr) : Bool := oexB K C && (decide (PySem.W.findIn K (.ref C) "__setattr__" = some (some (.builtin "object.__setattr__"))) && (decide (PySem.W.subIn K (.ref C) (.type "BaseException") = some true) && (decide (PySem.W.typeIn K (.ref C) = some (.type "type")) && PySem.W.keepIn K (.ref C))))
theorem oexCB_ok {K : PySem.W.Frag} {C : Addr} (h : oexCB K C = true) : OexC K C := by
  simp only [oexCB, Bool.and_eq_true, decide_eq_true_eq] at h
  exact ⟨oexB_ok h.1, h.2.1, h.2.2.1, h.2.2.2.1, h.2.2.2.2⟩
/-- all that the walk asks of the classes -/
def clsB (K : PySem.W.Frag) (CL fI : Addr) : Bool :=
  (oexCB K CL && (xfB K CL && decide (PySem.W.findIn K (.ref CL) "row" = some none))) && (decide (PySem.W.typeIn K (.ref fI) = some (.type "function")) && decide (PySem.W.exmOne K (.ref CL) (.ref CL) = some true))
set_option maxHeartbeats 4000000 in
theorem all_mk {l : PySem.W.OpenLaw} {q : Program} {w : World} {K : PySem.W.Frag} {h : Heap} {mg : Str → Option Value} {fa cL xIsName PIsName xRNum PRNum qW qS qR qG : Addr} {esG : Array DictEntry} {nG : Nat} {tG1 tG2 tG3 tG4 : Tok} (X : K.In h) (G : h.Ns mainGlobals mg) (hfa : mg "law" = some (.ref fa))
    {fIsName fRNum fWhole fTupOf fKept fPrice fIsDial fIsSaying fIsRule fForm fFDial fFRule fFault fIsHouse fRNums fRSay fRSays fRRule fRDial fRead fPen fDraw fPick fNames fDials fLNums fSayL fLSaid fLRule fHouseL fShSay fLShow fLNum fLNm fLRSay fLRow fLHouse fLDue fLTold fLBent fLaw fNTI : Addr} {odIsName anIsName odRNum anRNum odWhole anWhole odTupOf anTupOf odKept anKept odPrice anPrice odIsDial anIsDial odIsSaying anIsSaying odIsRule anIsRule odForm anForm odFDial anFDial odFRule anFRule odFault anFault odIsHouse anIsHouse odRNums anRNums odRSay anRSay odRSays anRSays odRRule anRRule odRDial anRDial odRead anRead odPen anPen odDraw anDraw odPick anPick odNames anNames odDials anDials odLNums anLNums odSayL anSayL odLSaid anLSaid odLRule anLRule odHouseL anHouseL odShSay anShSay odLShow anLShow odLNum anLNum odLNm anLNm odLRSay anLRSay odLRow anLRow odLHouse anLHouse odLDue anLDue odLTold anLTold odLBent anLBent odLaw anLaw odNTI anNTI : Option Addr} {slIsName slRNum slWhole slTupOf slKept slPrice slIsDial slIsSaying slIsRule slForm slFDial slFRule slFault slIsHouse slRNums slRSay slRSays slRRule slRDial slRead slPen slDraw slPick slNames slDials slLNums slSayL slLSaid slLRule slHouseL slShSay slLShow slLNum slLNm slLRSay slLRow slLHouse slLDue slLTold slLBent slLaw slNTI : Array (Option Value)} {t_far t_great t_dear t_long t_dials t_rules t_mf t_dw : Tok}
    {ocIsName kVIsName dcIsName pmIsName ctIsName ocRNum kVRNum dcRNum pmRNum ctRNum ocWhole kVWhole dcWhole pmWhole ctWhole ocTupOf kVTupOf dcTupOf pmTupOf ctTupOf ocKept kVKept dcKept pmKept ctKept ocPrice kVPrice dcPrice pmPrice ctPrice ocIsDial kVIsDial dcIsDial pmIsDial ctIsDial ocIsSaying kVIsSaying dcIsSaying pmIsSaying ctIsSaying ocIsRule kVIsRule dcIsRule pmIsRule ctIsRule ocForm kVForm dcForm pmForm ctForm ocFDial kVFDial dcFDial pmFDial ctFDial ocFRule kVFRule dcFRule pmFRule ctFRule ocFault kVFault dcFault pmFault ctFault ocIsHouse kVIsHouse dcIsHouse pmIsHouse ctIsHouse ocRNums kVRNums dcRNums pmRNums ctRNums ocRSay kVRSay dcRSay pmRSay ctRSay ocRSays kVRSays dcRSays pmRSays ctRSays ocRRule kVRRule dcRRule pmRRule ctRRule ocRDial kVRDial dcRDial pmRDial ctRDial ocRead kVRead dcRead pmRead ctRead ocPen kVPen dcPen pmPen ctPen ocDraw kVDraw dcDraw pmDraw ctDraw ocPick kVPick dcPick pmPick ctPick ocNames kVNames dcNames pmNames ctNames ocDials kVDials dcDials pmDials ctDials ocLNums kVLNums dcLNums pmLNums ctLNums ocSayL kVSayL dcSayL pmSayL ctSayL ocLSaid kVLSaid dcLSaid pmLSaid ctLSaid ocLRule kVLRule dcLRule pmLRule ctLRule ocHouseL kVHouseL dcHouseL pmHouseL ctHouseL ocShSay kVShSay dcShSay pmShSay ctShSay ocLShow kVLShow dcLShow pmLShow ctLShow ocLNum kVLNum dcLNum pmLNum ctLNum ocLNm kVLNm dcLNm pmLNm ctLNm ocLRSay kVLRSay dcLRSay pmLRSay ctLRSay ocLRow kVLRow dcLRow pmLRow ctLRow ocLHouse kVLHouse dcLHouse pmLHouse ctLHouse ocLDue kVLDue dcLDue pmLDue ctLDue ocLTold kVLTold dcLTold pmLTold ctLTold ocLBent kVLBent dcLBent pmLBent ctLBent ocLaw kVLaw dcLaw pmLaw ctLaw ocNTI kVNTI dcNTI pmNTI ctNTI cdWhole cdTupOf cdKept cdPrice cdIsDial cdIsSaying cdIsRule cdForm cdFDial cdFRule cdFault cdIsHouse cdRNums cdRSay cdRSays cdRRule cdRDial cdRead cdPen cdDraw cdPick cdNames cdDials cdLNums cdSayL cdLSaid cdLRule cdHouseL cdShSay cdLShow cdLNum cdLNm cdLRSay cdLRow cdLHouse cdLDue cdLTold cdLBent cdLaw cdNTI : Value}
    (gL : PySem.W.nsIn K mainGlobals "NoText" = some (some (.ref cL)))
    (aIsName : PySem.W.nsIn K mainGlobals "is_name" = some (some (.ref fIsName)))
    (lIsName : K.lookup fIsName = some ⟨ocIsName, odIsName, .func (PySem.W.fnOf "is_name" "is_name" (defArgs sIsName) (defBody sIsName) (defScope sIsName) .none kVIsName dcIsName pmIsName anIsName (.ref xIsName) ctIsName), slIsName⟩)
    (cIsName : PySem.W.codeIn K (.ref xIsName) "is_name" = true)
    (kIsName : PySem.W.keepIn K (.ref fIsName) = true)
    (aRNum : PySem.W.nsIn K mainGlobals "read_number" = some (some (.ref fRNum)))
    (lRNum : K.lookup fRNum = some ⟨ocRNum, odRNum, .func (PySem.W.fnOf "read_number" "read_number" (defArgs sRNum) (defBody sRNum) (defScope sRNum) .none kVRNum dcRNum pmRNum anRNum (.ref xRNum) ctRNum), slRNum⟩)
    (cRNum : PySem.W.codeIn K (.ref xRNum) "read_number" = true)
    (kRNum : PySem.W.keepIn K (.ref fRNum) = true)
    (aWhole : PySem.W.nsIn K mainGlobals "is_whole" = some (some (.ref fWhole)))
    (lWhole : K.lookup fWhole = some ⟨ocWhole, odWhole, .func (PySem.W.fnOf "is_whole" "is_whole" (defArgs sWhole) (defBody sWhole) (defScope sWhole) .none kVWhole dcWhole pmWhole anWhole cdWhole ctWhole), slWhole⟩)
    (cWhole : PySem.W.codeIn K cdWhole "is_whole" = true)
    (kWhole : PySem.W.keepIn K (.ref fWhole) = true)
    (aTupOf : PySem.W.nsIn K mainGlobals "is_tuple_of" = some (some (.ref fTupOf)))
    (lTupOf : K.lookup fTupOf = some ⟨ocTupOf, odTupOf, .func (PySem.W.fnOf "is_tuple_of" "is_tuple_of" (defArgs sTupOf) (defBody sTupOf) (defScope sTupOf) .none kVTupOf dcTupOf pmTupOf anTupOf cdTupOf ctTupOf), slTupOf⟩)
    (cTupOf : PySem.W.codeIn K cdTupOf "is_tuple_of" = true)
    (kTupOf : PySem.W.keepIn K (.ref fTupOf) = true)
    (aKept : PySem.W.nsIn K mainGlobals "kept" = some (some (.ref fKept)))
    (lKept : K.lookup fKept = some ⟨ocKept, odKept, .func (PySem.W.fnOf "kept" "kept" (defArgs sKept) (defBody sKept) (defScope sKept) .none kVKept dcKept pmKept anKept cdKept ctKept), slKept⟩)
    (cKept : PySem.W.codeIn K cdKept "kept" = true)
    (kKept : PySem.W.keepIn K (.ref fKept) = true)
    (aPrice : PySem.W.nsIn K mainGlobals "is_price" = some (some (.ref fPrice)))
    (lPrice : K.lookup fPrice = some ⟨ocPrice, odPrice, .func (PySem.W.fnOf "is_price" "is_price" (defArgs sPrice) (defBody sPrice) (defScope sPrice) .none kVPrice dcPrice pmPrice anPrice cdPrice ctPrice), slPrice⟩)
    (cPrice : PySem.W.codeIn K cdPrice "is_price" = true)
    (kPrice : PySem.W.keepIn K (.ref fPrice) = true)
    (aIsDial : PySem.W.nsIn K mainGlobals "is_dial" = some (some (.ref fIsDial)))
    (lIsDial : K.lookup fIsDial = some ⟨ocIsDial, odIsDial, .func (PySem.W.fnOf "is_dial" "is_dial" (defArgs sIsDial) (defBody sIsDial) (defScope sIsDial) .none kVIsDial dcIsDial pmIsDial anIsDial cdIsDial ctIsDial), slIsDial⟩)
    (cIsDial : PySem.W.codeIn K cdIsDial "is_dial" = true)
    (kIsDial : PySem.W.keepIn K (.ref fIsDial) = true)
    (aIsSaying : PySem.W.nsIn K mainGlobals "is_saying" = some (some (.ref fIsSaying)))
    (lIsSaying : K.lookup fIsSaying = some ⟨ocIsSaying, odIsSaying, .func (PySem.W.fnOf "is_saying" "is_saying" (defArgs sIsSaying) (defBody sIsSaying) (defScope sIsSaying) .none kVIsSaying dcIsSaying pmIsSaying anIsSaying cdIsSaying ctIsSaying), slIsSaying⟩)
    (cIsSaying : PySem.W.codeIn K cdIsSaying "is_saying" = true)
    (kIsSaying : PySem.W.keepIn K (.ref fIsSaying) = true)
    (aIsRule : PySem.W.nsIn K mainGlobals "is_rule" = some (some (.ref fIsRule)))
    (lIsRule : K.lookup fIsRule = some ⟨ocIsRule, odIsRule, .func (PySem.W.fnOf "is_rule" "is_rule" (defArgs sIsRule) (defBody sIsRule) (defScope sIsRule) .none kVIsRule dcIsRule pmIsRule anIsRule cdIsRule ctIsRule), slIsRule⟩)
    (cIsRule : PySem.W.codeIn K cdIsRule "is_rule" = true)
    (kIsRule : PySem.W.keepIn K (.ref fIsRule) = true)
    (aForm : PySem.W.nsIn K mainGlobals "has_house_form" = some (some (.ref fForm)))
    (lForm : K.lookup fForm = some ⟨ocForm, odForm, .func (PySem.W.fnOf "has_house_form" "has_house_form" (defArgs sForm) (defBody sForm) (defScope sForm) .none kVForm dcForm pmForm anForm cdForm ctForm), slForm⟩)
    (cForm : PySem.W.codeIn K cdForm "has_house_form" = true)
    (kForm : PySem.W.keepIn K (.ref fForm) = true)
    (aFDial : PySem.W.nsIn K mainGlobals "faulty_dial" = some (some (.ref fFDial)))
    (lFDial : K.lookup fFDial = some ⟨ocFDial, odFDial, .func (PySem.W.fnOf "faulty_dial" "faulty_dial" (defArgs sFDial) (defBody sFDial) (defScope sFDial) .none kVFDial dcFDial pmFDial anFDial cdFDial ctFDial), slFDial⟩)
    (cFDial : PySem.W.codeIn K cdFDial "faulty_dial" = true)
    (kFDial : PySem.W.keepIn K (.ref fFDial) = true)
    (aFRule : PySem.W.nsIn K mainGlobals "faulty_rule" = some (some (.ref fFRule)))
    (lFRule : K.lookup fFRule = some ⟨ocFRule, odFRule, .func (PySem.W.fnOf "faulty_rule" "faulty_rule" (defArgs sFRule) (defBody sFRule) (defScope sFRule) .none kVFRule dcFRule pmFRule anFRule cdFRule ctFRule), slFRule⟩)
    (cFRule : PySem.W.codeIn K cdFRule "faulty_rule" = true)
    (kFRule : PySem.W.keepIn K (.ref fFRule) = true)
    (aFault : PySem.W.nsIn K mainGlobals "fault_of" = some (some (.ref fFault)))
    (lFault : K.lookup fFault = some ⟨ocFault, odFault, .func (PySem.W.fnOf "fault_of" "fault_of" (defArgs sFault) (defBody sFault) (defScope sFault) .none kVFault dcFault pmFault anFault cdFault ctFault), slFault⟩)
    (cFault : PySem.W.codeIn K cdFault "fault_of" = true)
    (kFault : PySem.W.keepIn K (.ref fFault) = true)
    (aIsHouse : PySem.W.nsIn K mainGlobals "is_house" = some (some (.ref fIsHouse)))
    (lIsHouse : K.lookup fIsHouse = some ⟨ocIsHouse, odIsHouse, .func (PySem.W.fnOf "is_house" "is_house" (defArgs sIsHouse) (defBody sIsHouse) (defScope sIsHouse) .none kVIsHouse dcIsHouse pmIsHouse anIsHouse cdIsHouse ctIsHouse), slIsHouse⟩)
    (cIsHouse : PySem.W.codeIn K cdIsHouse "is_house" = true)
    (kIsHouse : PySem.W.keepIn K (.ref fIsHouse) = true)
    (aRNums : PySem.W.nsIn K mainGlobals "read_numbers" = some (some (.ref fRNums)))
    (lRNums : K.lookup fRNums = some ⟨ocRNums, odRNums, .func (PySem.W.fnOf "read_numbers" "read_numbers" (defArgs sRNums) (defBody sRNums) (defScope sRNums) .none kVRNums dcRNums pmRNums anRNums cdRNums ctRNums), slRNums⟩)
    (cRNums : PySem.W.codeIn K cdRNums "read_numbers" = true)
    (kRNums : PySem.W.keepIn K (.ref fRNums) = true)
    (aRSay : PySem.W.nsIn K mainGlobals "read_saying" = some (some (.ref fRSay)))
    (lRSay : K.lookup fRSay = some ⟨ocRSay, odRSay, .func (PySem.W.fnOf "read_saying" "read_saying" (defArgs sRSay) (defBody sRSay) (defScope sRSay) .none kVRSay dcRSay pmRSay anRSay cdRSay ctRSay), slRSay⟩)
    (cRSay : PySem.W.codeIn K cdRSay "read_saying" = true)
    (kRSay : PySem.W.keepIn K (.ref fRSay) = true)
    (aRSays : PySem.W.nsIn K mainGlobals "read_sayings" = some (some (.ref fRSays)))
    (lRSays : K.lookup fRSays = some ⟨ocRSays, odRSays, .func (PySem.W.fnOf "read_sayings" "read_sayings" (defArgs sRSays) (defBody sRSays) (defScope sRSays) .none kVRSays dcRSays pmRSays anRSays cdRSays ctRSays), slRSays⟩)
    (cRSays : PySem.W.codeIn K cdRSays "read_sayings" = true)
    (kRSays : PySem.W.keepIn K (.ref fRSays) = true)
    (aRRule : PySem.W.nsIn K mainGlobals "read_rule" = some (some (.ref fRRule)))
    (lRRule : K.lookup fRRule = some ⟨ocRRule, odRRule, .func (PySem.W.fnOf "read_rule" "read_rule" (defArgs sRRule) (defBody sRRule) (defScope sRRule) .none kVRRule dcRRule pmRRule anRRule cdRRule ctRRule), slRRule⟩)
    (cRRule : PySem.W.codeIn K cdRRule "read_rule" = true)
    (kRRule : PySem.W.keepIn K (.ref fRRule) = true)
    (aRDial : PySem.W.nsIn K mainGlobals "read_dial" = some (some (.ref fRDial)))
    (lRDial : K.lookup fRDial = some ⟨ocRDial, odRDial, .func (PySem.W.fnOf "read_dial" "read_dial" (defArgs sRDial) (defBody sRDial) (defScope sRDial) .none kVRDial dcRDial pmRDial anRDial cdRDial ctRDial), slRDial⟩)
    (cRDial : PySem.W.codeIn K cdRDial "read_dial" = true)
    (kRDial : PySem.W.keepIn K (.ref fRDial) = true)
    (aRead : PySem.W.nsIn K mainGlobals "read_house" = some (some (.ref fRead)))
    (lRead : K.lookup fRead = some ⟨ocRead, odRead, .func (PySem.W.fnOf "read_house" "read_house" (defArgs sRead) (defBody sRead) (defScope sRead) .none kVRead dcRead pmRead anRead cdRead ctRead), slRead⟩)
    (cRead : PySem.W.codeIn K cdRead "read_house" = true)
    (kRead : PySem.W.keepIn K (.ref fRead) = true)
    (aPen : PySem.W.nsIn K mainGlobals "_law_pen" = some (some (.ref fPen)))
    (lPen : K.lookup fPen = some ⟨ocPen, odPen, .func (PySem.W.fnOf "_law_pen" "_law_pen" (defArgs sPen) (defBody sPen) (defScope sPen) .none kVPen dcPen pmPen anPen cdPen ctPen), slPen⟩)
    (cPen : PySem.W.codeIn K cdPen "_law_pen" = true)
    (kPen : PySem.W.keepIn K (.ref fPen) = true)
    (aDraw : PySem.W.nsIn K mainGlobals "_law_draw" = some (some (.ref fDraw)))
    (lDraw : K.lookup fDraw = some ⟨ocDraw, odDraw, .func (PySem.W.fnOf "_law_draw" "_law_draw" (defArgs sDraw) (defBody sDraw) (defScope sDraw) .none kVDraw dcDraw pmDraw anDraw cdDraw ctDraw), slDraw⟩)
    (cDraw : PySem.W.codeIn K cdDraw "_law_draw" = true)
    (kDraw : PySem.W.keepIn K (.ref fDraw) = true)
    (aPick : PySem.W.nsIn K mainGlobals "_law_pick" = some (some (.ref fPick)))
    (lPick : K.lookup fPick = some ⟨ocPick, odPick, .func (PySem.W.fnOf "_law_pick" "_law_pick" (defArgs sPick) (defBody sPick) (defScope sPick) .none kVPick dcPick pmPick anPick cdPick ctPick), slPick⟩)
    (cPick : PySem.W.codeIn K cdPick "_law_pick" = true)
    (kPick : PySem.W.keepIn K (.ref fPick) = true)
    (aNames : PySem.W.nsIn K mainGlobals "_law_names" = some (some (.ref fNames)))
    (lNames : K.lookup fNames = some ⟨ocNames, odNames, .func (PySem.W.fnOf "_law_names" "_law_names" (defArgs sNames) (defBody sNames) (defScope sNames) .none kVNames dcNames pmNames anNames cdNames ctNames), slNames⟩)
    (cNames : PySem.W.codeIn K cdNames "_law_names" = true)
    (kNames : PySem.W.keepIn K (.ref fNames) = true)
    (aDials : PySem.W.nsIn K mainGlobals "_law_dials" = some (some (.ref fDials)))
    (lDials : K.lookup fDials = some ⟨ocDials, odDials, .func (PySem.W.fnOf "_law_dials" "_law_dials" (defArgs sDials) (defBody sDials) (defScope sDials) .none kVDials dcDials pmDials anDials cdDials ctDials), slDials⟩)
    (cDials : PySem.W.codeIn K cdDials "_law_dials" = true)
    (kDials : PySem.W.keepIn K (.ref fDials) = true)
    (aLNums : PySem.W.nsIn K mainGlobals "_law_numbers" = some (some (.ref fLNums)))
    (lLNums : K.lookup fLNums = some ⟨ocLNums, odLNums, .func (PySem.W.fnOf "_law_numbers" "_law_numbers" (defArgs sLNums) (defBody sLNums) (defScope sLNums) .none kVLNums dcLNums pmLNums anLNums cdLNums ctLNums), slLNums⟩)
    (cLNums : PySem.W.codeIn K cdLNums "_law_numbers" = true)
    (kLNums : PySem.W.keepIn K (.ref fLNums) = true)
    (aSayL : PySem.W.nsIn K mainGlobals "_law_saying" = some (some (.ref fSayL)))
    (lSayL : K.lookup fSayL = some ⟨ocSayL, odSayL, .func (PySem.W.fnOf "_law_saying" "_law_saying" (defArgs sSay) (defBody sSay) (defScope sSay) .none kVSayL dcSayL pmSayL anSayL cdSayL ctSayL), slSayL⟩)
    (cSayL : PySem.W.codeIn K cdSayL "_law_saying" = true)
    (kSayL : PySem.W.keepIn K (.ref fSayL) = true)
    (aLSaid : PySem.W.nsIn K mainGlobals "_law_said" = some (some (.ref fLSaid)))
    (lLSaid : K.lookup fLSaid = some ⟨ocLSaid, odLSaid, .func (PySem.W.fnOf "_law_said" "_law_said" (defArgs sLSaid) (defBody sLSaid) (defScope sLSaid) .none kVLSaid dcLSaid pmLSaid anLSaid cdLSaid ctLSaid), slLSaid⟩)
    (cLSaid : PySem.W.codeIn K cdLSaid "_law_said" = true)
    (kLSaid : PySem.W.keepIn K (.ref fLSaid) = true)
    (aLRule : PySem.W.nsIn K mainGlobals "_law_rule" = some (some (.ref fLRule)))
    (lLRule : K.lookup fLRule = some ⟨ocLRule, odLRule, .func (PySem.W.fnOf "_law_rule" "_law_rule" (defArgs sLRule) (defBody sLRule) (defScope sLRule) .none kVLRule dcLRule pmLRule anLRule cdLRule ctLRule), slLRule⟩)
    (cLRule : PySem.W.codeIn K cdLRule "_law_rule" = true)
    (kLRule : PySem.W.keepIn K (.ref fLRule) = true)
    (aHouseL : PySem.W.nsIn K mainGlobals "_law_house" = some (some (.ref fHouseL)))
    (lHouseL : K.lookup fHouseL = some ⟨ocHouseL, odHouseL, .func (PySem.W.fnOf "_law_house" "_law_house" (defArgs sHouseL) (defBody sHouseL) (defScope sHouseL) .none kVHouseL dcHouseL pmHouseL anHouseL cdHouseL ctHouseL), slHouseL⟩)
    (cHouseL : PySem.W.codeIn K cdHouseL "_law_house" = true)
    (kHouseL : PySem.W.keepIn K (.ref fHouseL) = true)
    (aShSay : PySem.W.nsIn K mainGlobals "_law_show_saying" = some (some (.ref fShSay)))
    (lShSay : K.lookup fShSay = some ⟨ocShSay, odShSay, .func (PySem.W.fnOf "_law_show_saying" "_law_show_saying" (defArgs sLSay) (defBody sLSay) (defScope sLSay) .none kVShSay dcShSay pmShSay anShSay cdShSay ctShSay), slShSay⟩)
    (cShSay : PySem.W.codeIn K cdShSay "_law_show_saying" = true)
    (kShSay : PySem.W.keepIn K (.ref fShSay) = true)
    (aLShow : PySem.W.nsIn K mainGlobals "_law_show_house" = some (some (.ref fLShow)))
    (lLShow : K.lookup fLShow = some ⟨ocLShow, odLShow, .func (PySem.W.fnOf "_law_show_house" "_law_show_house" (defArgs sLShow) (defBody sLShow) (defScope sLShow) .none kVLShow dcLShow pmLShow anLShow cdLShow ctLShow), slLShow⟩)
    (cLShow : PySem.W.codeIn K cdLShow "_law_show_house" = true)
    (kLShow : PySem.W.keepIn K (.ref fLShow) = true)
    (aLNum : PySem.W.nsIn K mainGlobals "_law_read_number" = some (some (.ref fLNum)))
    (lLNum : K.lookup fLNum = some ⟨ocLNum, odLNum, .func (PySem.W.fnOf "_law_read_number" "_law_read_number" (defArgs sLNum) (defBody sLNum) (defScope sLNum) .none kVLNum dcLNum pmLNum anLNum cdLNum ctLNum), slLNum⟩)
    (cLNum : PySem.W.codeIn K cdLNum "_law_read_number" = true)
    (kLNum : PySem.W.keepIn K (.ref fLNum) = true)
    (aLNm : PySem.W.nsIn K mainGlobals "_law_is_name" = some (some (.ref fLNm)))
    (lLNm : K.lookup fLNm = some ⟨ocLNm, odLNm, .func (PySem.W.fnOf "_law_is_name" "_law_is_name" (defArgs sLNm) (defBody sLNm) (defScope sLNm) .none kVLNm dcLNm pmLNm anLNm cdLNm ctLNm), slLNm⟩)
    (cLNm : PySem.W.codeIn K cdLNm "_law_is_name" = true)
    (kLNm : PySem.W.keepIn K (.ref fLNm) = true)
    (aLRSay : PySem.W.nsIn K mainGlobals "_law_read_saying" = some (some (.ref fLRSay)))
    (lLRSay : K.lookup fLRSay = some ⟨ocLRSay, odLRSay, .func (PySem.W.fnOf "_law_read_saying" "_law_read_saying" (defArgs sLRSay) (defBody sLRSay) (defScope sLRSay) .none kVLRSay dcLRSay pmLRSay anLRSay cdLRSay ctLRSay), slLRSay⟩)
    (cLRSay : PySem.W.codeIn K cdLRSay "_law_read_saying" = true)
    (kLRSay : PySem.W.keepIn K (.ref fLRSay) = true)
    (aLRow : PySem.W.nsIn K mainGlobals "_law_read_row" = some (some (.ref fLRow)))
    (lLRow : K.lookup fLRow = some ⟨ocLRow, odLRow, .func (PySem.W.fnOf "_law_read_row" "_law_read_row" (defArgs sLRow) (defBody sLRow) (defScope sLRow) .none kVLRow dcLRow pmLRow anLRow cdLRow ctLRow), slLRow⟩)
    (cLRow : PySem.W.codeIn K cdLRow "_law_read_row" = true)
    (kLRow : PySem.W.keepIn K (.ref fLRow) = true)
    (aLHouse : PySem.W.nsIn K mainGlobals "_law_is_house" = some (some (.ref fLHouse)))
    (lLHouse : K.lookup fLHouse = some ⟨ocLHouse, odLHouse, .func (PySem.W.fnOf "_law_is_house" "_law_is_house" (defArgs sLHouse) (defBody sLHouse) (defScope sLHouse) .none kVLHouse dcLHouse pmLHouse anLHouse cdLHouse ctLHouse), slLHouse⟩)
    (cLHouse : PySem.W.codeIn K cdLHouse "_law_is_house" = true)
    (kLHouse : PySem.W.keepIn K (.ref fLHouse) = true)
    (aLDue : PySem.W.nsIn K mainGlobals "_law_due" = some (some (.ref fLDue)))
    (lLDue : K.lookup fLDue = some ⟨ocLDue, odLDue, .func (PySem.W.fnOf "_law_due" "_law_due" (defArgs sLDue) (defBody sLDue) (defScope sLDue) .none kVLDue dcLDue pmLDue anLDue cdLDue ctLDue), slLDue⟩)
    (cLDue : PySem.W.codeIn K cdLDue "_law_due" = true)
    (kLDue : PySem.W.keepIn K (.ref fLDue) = true)
    (aLTold : PySem.W.nsIn K mainGlobals "_law_told" = some (some (.ref fLTold)))
    (lLTold : K.lookup fLTold = some ⟨ocLTold, odLTold, .func (PySem.W.fnOf "_law_told" "_law_told" (defArgs sLTold) (defBody sLTold) (defScope sLTold) .none kVLTold dcLTold pmLTold anLTold cdLTold ctLTold), slLTold⟩)
    (cLTold : PySem.W.codeIn K cdLTold "_law_told" = true)
    (kLTold : PySem.W.keepIn K (.ref fLTold) = true)
    (aLBent : PySem.W.nsIn K mainGlobals "_law_bent" = some (some (.ref fLBent)))
    (lLBent : K.lookup fLBent = some ⟨ocLBent, odLBent, .func (PySem.W.fnOf "_law_bent" "_law_bent" (defArgs sLBent) (defBody sLBent) (defScope sLBent) .none kVLBent dcLBent pmLBent anLBent cdLBent ctLBent), slLBent⟩)
    (cLBent : PySem.W.codeIn K cdLBent "_law_bent" = true)
    (kLBent : PySem.W.keepIn K (.ref fLBent) = true)
    (aLaw : PySem.W.nsIn K mainGlobals "law" = some (some (.ref fLaw)))
    (lLaw : K.lookup fLaw = some ⟨ocLaw, odLaw, .func (PySem.W.fnOf "law" "law" (defArgs sLaw72) (defBody sLaw72) (defScope sLaw72) .none kVLaw dcLaw pmLaw anLaw cdLaw ctLaw), slLaw⟩)
    (cLaw : PySem.W.codeIn K cdLaw "law" = true)
    (kLaw : PySem.W.keepIn K (.ref fLaw) = true)
    (aNTI : PySem.W.findIn K (.ref cL) "__init__" = some (some (.ref fNTI)))
    (lNTI : K.lookup fNTI = some ⟨ocNTI, odNTI, .func (PySem.W.fnOf "__init__" "NoText.__init__" (defArgs sNTI) (defBody sNTI) (defScope sNTI) .none kVNTI dcNTI pmNTI anNTI cdNTI ctNTI), slNTI⟩)
    (cNTI : PySem.W.codeIn K cdNTI "NoText.__init__" = true)
    (kNTI : PySem.W.keepIn K (.ref fNTI) = true)
    (y_far : PySem.W.nsIn K mainGlobals "FARTHEST" = some (some (.int 1000000000000000000 t_far)))
    (y_great : PySem.W.nsIn K mainGlobals "GREATEST" = some (some (.int 100000000000000000000 t_great)))
    (y_dear : PySem.W.nsIn K mainGlobals "DEAREST" = some (some (.int 1000000 t_dear)))
    (y_long : PySem.W.nsIn K mainGlobals "LONGEST_NAME" = some (some (.int 8 t_long)))
    (y_dials : PySem.W.nsIn K mainGlobals "MOST_DIALS" = some (some (.int 12 t_dials)))
    (y_rules : PySem.W.nsIn K mainGlobals "MOST_RULES" = some (some (.int 40 t_rules)))
    (y_mf : PySem.W.nsIn K mainGlobals "MOST_FIGURES" = some (some (.int 60 t_mf)))
    (y_dw : PySem.W.nsIn K mainGlobals "DIAL_WORDS" = some (some (.int 7 t_dw)))
    (y_W : PySem.W.nsIn K mainGlobals "WAYS" = some (some (.ref qW)))
    (y_S : PySem.W.nsIn K mainGlobals "SORTS" = some (some (.ref qS)))
    (y_R : PySem.W.nsIn K mainGlobals "PAIR_RULES" = some (some (.ref qR)))
    (z_isinstance : PySem.W.nsIn K mainGlobals "isinstance" = some none)
    (z_bool : PySem.W.nsIn K mainGlobals "bool" = some none)
    (z_int : PySem.W.nsIn K mainGlobals "int" = some none)
    (z_str : PySem.W.nsIn K mainGlobals "str" = some none)
    (z_tuple : PySem.W.nsIn K mainGlobals "tuple" = some none)
    (z_list : PySem.W.nsIn K mainGlobals "list" = some none)
    (z_len : PySem.W.nsIn K mainGlobals "len" = some none)
    (z_all : PySem.W.nsIn K mainGlobals "all" = some none)
    (z_enumerate : PySem.W.nsIn K mainGlobals "enumerate" = some none)
    (z_abs : PySem.W.nsIn K mainGlobals "abs" = some none)
    (z_dict : PySem.W.nsIn K mainGlobals "dict" = some none)
    (z_range : PySem.W.nsIn K mainGlobals "range" = some none)
    (z_repr : PySem.W.nsIn K mainGlobals "repr" = some none)
    (z_sorted : PySem.W.nsIn K mainGlobals "sorted" = some none)
    (z_min : PySem.W.nsIn K mainGlobals "min" = some none)
    (z_max : PySem.W.nsIn K mainGlobals "max" = some none)
    (z_set : PySem.W.nsIn K mainGlobals "set" = some none)
    (yG : PySem.W.nsIn K mainGlobals "SIGNS" = some (some (.ref qG)))
    (lG : K.lookup qG = some ⟨.type "dict", none, .dict esG nG, #[]⟩)
    (sG1 : PySem.W.nsIn K qG "least" = some (some (.str ">=" tG1)))
    (sG2 : PySem.W.nsIn K qG "most" = some (some (.str "<=" tG2)))
    (hTIsName : PySem.W.tabIn K "is_name" = some (xIsName, PIsName))
    (hPIsName : K.lookup PIsName = none)
    (hrIsName : ((PyProof.Rows.recsOf q).find? (fun e => e.name == ("is_name" : Str))).isSome = true)
    (hTRNum : PySem.W.tabIn K "read_number" = some (xRNum, PRNum))
    (hPRNum : K.lookup PRNum = none)
    (hrRNum : ((PyProof.Rows.recsOf q).find? (fun e => e.name == ("read_number" : Str))).isSome = true)
    (hchk : (strsB K qW ways3 && (strsB K qS sorts2 && strsB K qR pairs3)) = true)
    (hcls : clsB K cL fNTI = true)
    (kG : PySem.W.KeysLit w.params esG.toList)
    (eG : esG.toList.map (fun e => e.key) = [.str "least" tG3, .str "most" tG4])
    (lowG : (qG == sysModules) = false)
    : ∃ (fd : FuncData) (cs : List (Addr × Addr)), (∀ p ∈ cs, ∃ (y : Str) (dr : PySem.DefRec), (PyProof.Rows.recsOf q).find? (fun e => e.name == y) = some dr ∧ PySem.W.tabIn K y = some p ∧ K.lookup p.2 = none) ∧
      (∀ (s : Shared) (u : Value), BindsTo s fd ⟨[u], []⟩ [("_law_script", u)]) ∧ ∀ bs : Heap, K.In bs → bs.Ns mainGlobals mg → (∀ p ∈ cs, GxR.TabB bs mg p.1 p.2) → FnG l.prog w K mg bs 18 fa fd ["_law_script"] (spLaw K cs) := by
  have e := hfa.symm.trans (PySem.W.mg_of X G aLaw)
  cases e
  obtain ⟨dr1, hdr1⟩ := Option.isSome_iff_exists.mp hrIsName
  obtain ⟨dr2, hdr2⟩ := Option.isSome_iff_exists.mp hrRNum
  simp only [clsB, Bool.and_eq_true, decide_eq_true_eq] at hcls
  rw [Bool.and_eq_true, Bool.and_eq_true] at hchk
  obtain ⟨⟨u1, u2, u3⟩, u4, u5⟩ := hcls
  have BH : BltH mg := ⟨PySem.W.mg_none_of X G z_isinstance, PySem.W.mg_none_of X G z_bool, PySem.W.mg_none_of X G z_int, PySem.W.mg_none_of X G z_str, PySem.W.mg_none_of X G z_tuple, PySem.W.mg_none_of X G z_list, PySem.W.mg_none_of X G z_len, PySem.W.mg_none_of X G z_all, PySem.W.mg_none_of X G z_enumerate⟩
  have B : Blt mg := ⟨PySem.W.mg_none_of X G z_len, PySem.W.mg_none_of X G z_abs, PySem.W.mg_none_of X G z_list, PySem.W.mg_none_of X G z_tuple, PySem.W.mg_none_of X G z_dict, PySem.W.mg_none_of X G z_isinstance, PySem.W.mg_none_of X G z_range, PySem.W.mg_none_of X G z_repr, PySem.W.mg_none_of X G z_sorted, PySem.W.mg_none_of X G z_min, PySem.W.mg_none_of X G z_max, PySem.W.mg_none_of X G z_int, PySem.W.mg_none_of X G z_str⟩
  have C : Cons K mg qW qS qR := ⟨⟨_, PySem.W.mg_of X G y_far⟩, ⟨_, PySem.W.mg_of X G y_great⟩, ⟨_, PySem.W.mg_of X G y_dear⟩, ⟨_, PySem.W.mg_of X G y_long⟩, ⟨_, PySem.W.mg_of X G y_dials⟩, ⟨_, PySem.W.mg_of X G y_rules⟩, PySem.W.mg_of X G y_W, PySem.W.mg_of X G y_S, PySem.W.mg_of X G y_R, strsB_ok hchk.1, strsB_ok hchk.2.1, strsB_ok hchk.2.2⟩
  have SC : SignC K w mg qG := by
    refine ⟨PySem.W.mg_of X G yG, ⟨esG, nG, _, lG, kG, sG1, ⟨_, rfl⟩⟩, ⟨esG, nG, _, lG, kG, sG2, ⟨_, rfl⟩⟩, lowG, esG, nG, lG, ?_, fun i z hz => ?_⟩
    · have q := congrArg List.length eG
      rw [List.length_map, Array.length_toList] at q
      exact q
    · have q : (esG.toList.map (fun e => e.key))[i]? = ([.str "least" tG3, .str "most" tG4] : List Value)[i]? := by rw [eG]
      rw [List.getElem?_map] at q
      match i, hz with
      | 0, hz =>
        cases hz
        obtain ⟨e, he, ek⟩ := Option.map_eq_some_iff.mp q
        exact ⟨e, _, by rw [← Array.getElem?_toList]; exact he, ek⟩
      | 1, hz =>
        cases hz
        obtain ⟨e, he, ek⟩ := Option.map_eq_some_iff.mp q
        exact ⟨e, _, by rw [← Array.getElem?_toList]; exact he, ek⟩
      | n + 2, hz => simp at hz
  have FIsName := fun_mk (st := sIsName) lIsName cIsName kIsName
  have mIsName := PySem.W.mg_of X G aIsName
  have bIsName := FIsName.binds (ps := ["thing"]) fun _ _ _ _ _ _ us hl => match us, hl with | [_], _ => rfl
  have FRNum := fun_mk (st := sRNum) lRNum cRNum kRNum
  have mRNum := PySem.W.mg_of X G aRNum
  have bRNum := FRNum.binds (ps := ["word"]) fun _ _ _ _ _ _ us hl => match us, hl with | [_], _ => rfl
  have FWhole := fun_mk (st := sWhole) lWhole cWhole kWhole
  have mWhole := PySem.W.mg_of X G aWhole
  have bWhole := FWhole.binds (ps := ["thing", "low", "high"]) fun _ _ _ _ _ _ us hl => match us, hl with | [_, _, _], _ => rfl
  have FTupOf := fun_mk (st := sTupOf) lTupOf cTupOf kTupOf
  have mTupOf := PySem.W.mg_of X G aTupOf
  have bTupOf := FTupOf.binds (ps := ["thing", "least", "most"]) fun _ _ _ _ _ _ us hl => match us, hl with | [_, _, _], _ => rfl
  have FKept := fun_mk (st := sKept) lKept cKept kKept
  have mKept := PySem.W.mg_of X G aKept
  have bKept := FKept.binds (ps := ["thing"]) fun _ _ _ _ _ _ us hl => match us, hl with | [_], _ => rfl
  have FPrice := fun_mk (st := sPrice) lPrice cPrice kPrice
  have mPrice := PySem.W.mg_of X G aPrice
  have bPrice := FPrice.binds (ps := ["thing"]) fun _ _ _ _ _ _ us hl => match us, hl with | [_], _ => rfl
  have FIsDial := fun_mk (st := sIsDial) lIsDial cIsDial kIsDial
  have mIsDial := PySem.W.mg_of X G aIsDial
  have bIsDial := FIsDial.binds (ps := ["thing"]) fun _ _ _ _ _ _ us hl => match us, hl with | [_], _ => rfl
  have FIsSaying := fun_mk (st := sIsSaying) lIsSaying cIsSaying kIsSaying
  have mIsSaying := PySem.W.mg_of X G aIsSaying
  have bIsSaying := FIsSaying.binds (ps := ["names", "thing"]) fun _ _ _ _ _ _ us hl => match us, hl with | [_, _], _ => rfl
  have FIsRule := fun_mk (st := sIsRule) lIsRule cIsRule kIsRule
  have mIsRule := PySem.W.mg_of X G aIsRule
  have bIsRule := FIsRule.binds (ps := ["names", "thing"]) fun _ _ _ _ _ _ us hl => match us, hl with | [_, _], _ => rfl
  have FForm := fun_mk (st := sForm) lForm cForm kForm
  have mForm := PySem.W.mg_of X G aForm
  have bForm := FForm.binds (ps := ["thing"]) fun _ _ _ _ _ _ us hl => match us, hl with | [_], _ => rfl
  have FFDial := fun_mk (st := sFDial) lFDial cFDial kFDial
  have mFDial := PySem.W.mg_of X G aFDial
  have bFDial := FFDial.binds (ps := ["dials"]) fun _ _ _ _ _ _ us hl => match us, hl with | [_], _ => rfl
  have FFRule := fun_mk (st := sFRule) lFRule cFRule kFRule
  have mFRule := PySem.W.mg_of X G aFRule
  have bFRule := FFRule.binds (ps := ["names", "rules"]) fun _ _ _ _ _ _ us hl => match us, hl with | [_, _], _ => rfl
  have FFault := fun_mk (st := sFault) lFault cFault kFault
  have mFault := PySem.W.mg_of X G aFault
  have bFault := FFault.binds (ps := ["thing"]) fun _ _ _ _ _ _ us hl => match us, hl with | [_], _ => rfl
  have FIsHouse := fun_mk (st := sIsHouse) lIsHouse cIsHouse kIsHouse
  have mIsHouse := PySem.W.mg_of X G aIsHouse
  have bIsHouse := FIsHouse.binds (ps := ["thing"]) fun _ _ _ _ _ _ us hl => match us, hl with | [_], _ => rfl
  have FRNums := fun_mk (st := sRNums) lRNums cRNums kRNums
  have mRNums := PySem.W.mg_of X G aRNums
  have bRNums := FRNums.binds (ps := ["words"]) fun _ _ _ _ _ _ us hl => match us, hl with | [_], _ => rfl
  have FRSay := fun_mk (st := sRSay) lRSay cRSay kRSay
  have mRSay := PySem.W.mg_of X G aRSay
  have bRSay := FRSay.binds (ps := ["word"]) fun _ _ _ _ _ _ us hl => match us, hl with | [_], _ => rfl
  have FRSays := fun_mk (st := sRSays) lRSays cRSays kRSays
  have mRSays := PySem.W.mg_of X G aRSays
  have bRSays := FRSays.binds (ps := ["words"]) fun _ _ _ _ _ _ us hl => match us, hl with | [_], _ => rfl
  have FRRule := fun_mk (st := sRRule) lRRule cRRule kRRule
  have mRRule := PySem.W.mg_of X G aRRule
  have bRRule := FRRule.binds (ps := ["words"]) fun _ _ _ _ _ _ us hl => match us, hl with | [_], _ => rfl
  have FRDial := fun_mk (st := sRDial) lRDial cRDial kRDial
  have mRDial := PySem.W.mg_of X G aRDial
  have bRDial := FRDial.binds (ps := ["words"]) fun _ _ _ _ _ _ us hl => match us, hl with | [_], _ => rfl
  have FRead := fun_mk (st := sRead) lRead cRead kRead
  have mRead := PySem.W.mg_of X G aRead
  have bRead := FRead.binds (ps := ["text"]) fun _ _ _ _ _ _ us hl => match us, hl with | [_], _ => rfl
  have FPen := fun_mk (st := sPen) lPen cPen kPen
  have mPen := PySem.W.mg_of X G aPen
  have bPen := FPen.binds (ps := ["_law_script"]) fun _ _ _ _ _ _ us hl => match us, hl with | [_], _ => rfl
  have FDraw := fun_mk (st := sDraw) lDraw cDraw kDraw
  have mDraw := PySem.W.mg_of X G aDraw
  have bDraw := FDraw.binds (ps := ["_law_pen_here", "_law_many"]) fun _ _ _ _ _ _ us hl => match us, hl with | [_, _], _ => rfl
  have FPick := fun_mk (st := sPick) lPick cPick kPick
  have mPick := PySem.W.mg_of X G aPick
  have bPick := FPick.binds (ps := ["_law_pen_here", "_law_lot"]) fun _ _ _ _ _ _ us hl => match us, hl with | [_, _], _ => rfl
  have FNames := fun_mk (st := sNames) lNames cNames kNames
  have mNames := PySem.W.mg_of X G aNames
  have bNames := FNames.binds (ps := ["_law_pen_here", "_law_many"]) fun _ _ _ _ _ _ us hl => match us, hl with | [_, _], _ => rfl
  have FDials := fun_mk (st := sDials) lDials cDials kDials
  have mDials := PySem.W.mg_of X G aDials
  have bDials := FDials.binds (ps := ["_law_pen_here", "_law_many", "_law_wide"]) fun _ _ _ _ _ _ us hl => match us, hl with | [_, _, _], _ => rfl
  have FLNums := fun_mk (st := sLNums) lLNums cLNums kLNums
  have mLNums := PySem.W.mg_of X G aLNums
  have bLNums := FLNums.binds (ps := ["_law_pen_here", "_law_dials_here"]) fun _ _ _ _ _ _ us hl => match us, hl with | [_, _], _ => rfl
  have FSayL := fun_mk (st := sSay) lSayL cSayL kSayL
  have mSayL := PySem.W.mg_of X G aSayL
  have bSayL := FSayL.binds (ps := ["_law_pen_here", "_law_dials_here", "_law_at"]) fun _ _ _ _ _ _ us hl => match us, hl with | [_, _, _], _ => rfl
  have FLSaid := fun_mk (st := sLSaid) lLSaid cLSaid kLSaid
  have mLSaid := PySem.W.mg_of X G aLSaid
  have bLSaid := FLSaid.binds (ps := ["_law_saying_here", "_law_at"]) fun _ _ _ _ _ _ us hl => match us, hl with | [_, _], _ => rfl
  have FLRule := fun_mk (st := sLRule) lLRule cLRule kLRule
  have mLRule := PySem.W.mg_of X G aLRule
  have bLRule := FLRule.binds (ps := ["_law_pen_here", "_law_dials_here", "_law_at"]) fun _ _ _ _ _ _ us hl => match us, hl with | [_, _, _], _ => rfl
  have FHouseL := fun_mk (st := sHouseL) lHouseL cHouseL kHouseL
  have mHouseL := PySem.W.mg_of X G aHouseL
  have bHouseL := FHouseL.binds (ps := ["_law_pen_here", "_law_many", "_law_wide", "_law_rules"]) fun _ _ _ _ _ _ us hl => match us, hl with | [_, _, _, _], _ => rfl
  have FShSay := fun_mk (st := sLSay) lShSay cShSay kShSay
  have mShSay := PySem.W.mg_of X G aShSay
  have bShSay := FShSay.binds (ps := ["_law_saying_here"]) fun _ _ _ _ _ _ us hl => match us, hl with | [_], _ => rfl
  have FLShow := fun_mk (st := sLShow) lLShow cLShow kLShow
  have mLShow := PySem.W.mg_of X G aLShow
  have bLShow := FLShow.binds (ps := ["_law_house_here"]) fun _ _ _ _ _ _ us hl => match us, hl with | [_], _ => rfl
  have FLNum := fun_mk (st := sLNum) lLNum cLNum kLNum
  have mLNum := PySem.W.mg_of X G aLNum
  have bLNum := FLNum.binds (ps := ["_law_text"]) fun _ _ _ _ _ _ us hl => match us, hl with | [_], _ => rfl
  have FLNm := fun_mk (st := sLNm) lLNm cLNm kLNm
  have mLNm := PySem.W.mg_of X G aLNm
  have bLNm := FLNm.binds (ps := ["_law_text"]) fun _ _ _ _ _ _ us hl => match us, hl with | [_], _ => rfl
  have FLRSay := fun_mk (st := sLRSay) lLRSay cLRSay kLRSay
  have mLRSay := PySem.W.mg_of X G aLRSay
  have bLRSay := FLRSay.binds (ps := ["_law_text"]) fun _ _ _ _ _ _ us hl => match us, hl with | [_], _ => rfl
  have FLRow := fun_mk (st := sLRow) lLRow cLRow kLRow
  have mLRow := PySem.W.mg_of X G aLRow
  have bLRow := FLRow.binds (ps := ["_law_text"]) fun _ _ _ _ _ _ us hl => match us, hl with | [_], _ => rfl
  have FLHouse := fun_mk (st := sLHouse) lLHouse cLHouse kLHouse
  have mLHouse := PySem.W.mg_of X G aLHouse
  have bLHouse := FLHouse.binds (ps := ["_law_dials_here", "_law_rules"]) fun _ _ _ _ _ _ us hl => match us, hl with | [_, _], _ => rfl
  have FLDue := fun_mk (st := sLDue) lLDue cLDue kLDue
  have mLDue := PySem.W.mg_of X G aLDue
  have bLDue := FLDue.binds (ps := ["_law_text"]) fun _ _ _ _ _ _ us hl => match us, hl with | [_], _ => rfl
  have FLTold := fun_mk (st := sLTold) lLTold cLTold kLTold
  have mLTold := PySem.W.mg_of X G aLTold
  have bLTold := FLTold.binds (ps := ["_law_text"]) fun _ _ _ _ _ _ us hl => match us, hl with | [_], _ => rfl
  have FLBent := fun_mk (st := sLBent) lLBent cLBent kLBent
  have mLBent := PySem.W.mg_of X G aLBent
  have bLBent := FLBent.binds (ps := ["_law_pen_here", "_law_text"]) fun _ _ _ _ _ _ us hl => match us, hl with | [_, _], _ => rfl
  have FLaw := fun_mk (st := sLaw72) lLaw cLaw kLaw
  have mLaw := PySem.W.mg_of X G aLaw
  have FNTI := fun_mk (st := sNTI) lNTI cNTI kNTI
  have bNTI := FNTI.binds (ps := ["self", "row"]) fun _ _ _ _ _ _ us hl => match us, hl with | [_, _], _ => rfl
  refine ⟨PySem.W.fnOf "law" "law" (defArgs sLaw72) (defBody sLaw72) (defScope sLaw72) .none kVLaw dcLaw pmLaw anLaw cdLaw ctLaw, [(xIsName, PIsName), (xRNum, PRNum)], fun p hp => ?_, fun s v => .of_eq rfl, fun bs _ _ htb => ?_⟩
  · rcases List.mem_cons.mp hp with e | e
    · rw [e]
      exact ⟨"is_name", dr1, hdr1, hTIsName, hPIsName⟩
    · rw [List.mem_singleton.mp e]
      exact ⟨"read_number", dr2, hdr2, hTRNum, hPRNum⟩
  have TB := htb (xIsName, PIsName) (by simp)
  have TB2 := htb (xRNum, PRNum) (by simp)
  have n1 : PIsName ∈ [PIsName, PRNum] := by simp
  have n2 : PRNum ∈ [PIsName, PRNum] := by simp
  have oWhole := ok_whole (P := l.prog) (w := w) (base := bs) FWhole BH
  have oTupOf := ok_tupOf (P := l.prog) (w := w) (base := bs) FTupOf BH
  have oIsName := ok_isName (P := l.prog) (w := w) (base := bs) lIsName cIsName TB C BH
  have oRNum := ok_rnum (P := l.prog) (w := w) (base := bs) lRNum cRNum TB2 BH ⟨_, PySem.W.mg_of X G y_mf⟩
  have oPrice := ok_price FPrice oWhole bWhole kWhole mWhole C
  have oIsDial := ok_isDial FIsDial oWhole bWhole kWhole mWhole oTupOf bTupOf kTupOf mTupOf oIsName bIsName kIsName mIsName oPrice bPrice kPrice mPrice C
  have oIsSaying := ok_isSaying FIsSaying oWhole bWhole kWhole mWhole oTupOf bTupOf kTupOf mTupOf C
  have oIsRule := ok_isRule FIsRule oWhole bWhole kWhole mWhole oTupOf bTupOf kTupOf mTupOf oIsSaying bIsSaying kIsSaying mIsSaying C
  have oForm := ok_form FForm oTupOf bTupOf kTupOf mTupOf C
  have oFDial := ok_fDial FFDial oIsDial bIsDial kIsDial mIsDial BH
  have oFRule := ok_fRule FFRule oIsRule bIsRule kIsRule mIsRule BH
  have oFault := ok_fault FFault oForm bForm kForm mForm oFDial bFDial kFDial mFDial oFRule bFRule kFRule mFRule
  have oKept := ok_keptS (P := l.prog) (w := w) (base := bs) (mg := mg) FKept BH B.dict
  have oNTI := ok_nti FNTI (oexCB_ok u1) u3 oKept bKept kKept mKept
  have oIsHouse := ok_houseT n1 FIsHouse oFault bFault kFault mFault
  have oRNums := ok_rnums n2 FRNums oRNum bRNum kRNum mRNum
  have oRSay := ok_rsay n2 n1 FRSay SC oRNum bRNum kRNum mRNum oIsName bIsName kIsName mIsName
  have oRSays := ok_rsays FRSays BH.tuple oRSay bRSay kRSay mRSay
  have oRRule := ok_rrule n2 n1 FRRule C BH oRNum bRNum kRNum mRNum oIsName bIsName kIsName mIsName oRSays bRSays kRSays mRSays
  have oRDial := ok_rdial n1 FRDial C BH ⟨_, PySem.W.mg_of X G y_dw⟩ oRNums bRNums kRNums mRNums oIsName bIsName kIsName mIsName
  have oRead := ok_read FRead BH (oexCB_ok u1) aNTI u4 oNTI bNTI (PySem.W.mg_of X G gL) oRDial bRDial kRDial mRDial oRRule bRRule kRRule mRRule oIsHouse bIsHouse kIsHouse mIsHouse
  have oPen := ok_pen (P := l.prog) (w := w) (base := bs) (mg := mg) FPen B
  have oDraw := (ok_draw (P := l.prog) (w := w) (base := bs) (mg := mg) FDraw B).imp draw_imp
  have oPick := ok_pick FPick oDraw bDraw kDraw mDraw B
  have oNames := ok_names FNames oDraw bDraw kDraw mDraw oPick bPick kPick mPick B
  have oDials := ok_dials FDials oDraw bDraw kDraw mDraw oPick bPick kPick mPick oNames bNames kNames mNames B
  have oLNums := ok_lnums FLNums oDraw bDraw kDraw mDraw oPick bPick kPick mPick B
  have oSayL := ok_sayL FSayL oDraw bDraw kDraw mDraw oPick bPick kPick mPick
  have oLSaid := ok_lsaid (P := l.prog) (w := w) (base := bs) (mg := mg) FLSaid 
  have oLRule := ok_lrule FLRule oDraw bDraw kDraw mDraw oPick bPick kPick mPick oSayL bSayL kSayL mSayL oLSaid bLSaid kLSaid mLSaid B
  have oHouseL := ok_houseW FHouseL oDials bDials kDials mDials oLNums bLNums kLNums mLNums oLRule bLRule kLRule mLRule B
  have oShSay := ok_shSay (P := l.prog) (w := w) (base := bs) (mg := mg) FShSay B.str
  have oLShow := ok_lshow FLShow BH oShSay bShSay kShSay mShSay
  have oLNum := ok_lnum (P := l.prog) (w := w) (base := bs) (mg := mg) FLNum BH
  have oLNm := ok_lnm (P := l.prog) (w := w) (base := bs) (mg := mg) FLNm BH
  have oLRSay := ok_lrsay FLRSay BH oLNm bLNm kLNm mLNm oLNum bLNum kLNum mLNum
  have oLRow := ok_lrow FLRow BH oLNum bLNum kLNum mLNum oLNm bLNm kLNm mLNm oLRSay bLRSay kLRSay mLRSay
  have oLHouse := ok_lhouse (P := l.prog) (w := w) (base := bs) (mg := mg) FLHouse BH B.sorted (PySem.W.mg_none_of X G z_set) B.min B.max B.abs
  have oLDue := ok_ldue FLDue BH B.range oLRow bLRow kLRow mLRow oLHouse bLHouse kLHouse mLHouse
  have oLTold := ok_ltold FLTold (xfB_ok u2) u3 (PySem.W.mg_of X G gL) u5 oRead bRead kRead mRead
  have oLBent := ok_lbent FLBent B oDraw bDraw kDraw mDraw oPick bPick kPick mPick
  exact ok_law (Ps := [PIsName, PRNum]) rfl FLaw ⟨⟨_, _, oPen, bPen, kPen, mPen⟩, ⟨_, _, oDraw, bDraw, kDraw, mDraw⟩, ⟨_, _, oPick, bPick, kPick, mPick⟩, ⟨_, _, oHouseL, bHouseL, kHouseL, mHouseL⟩, ⟨_, _, oLShow, bLShow, kLShow, mLShow⟩, ⟨_, _, oLBent, bLBent, kLBent, mLBent⟩, ⟨_, _, oLTold, bLTold, kLTold, mLTold⟩, ⟨_, _, oLDue, bLDue, kLDue, mLDue⟩⟩ B B.repr
end Pk
section
open PySem PySem.W PyProof.Rows
set_option maxHeartbeats 0
open_top hdK72 for PySem.Challenge.rw_pawldials_k72_whole_house_texts_refused
end
open PySem PySem.W PyProof.Rows
set_option maxRecDepth 100000 in
set_option maxHeartbeats 0 in
theorem PySem.Challenge.cw_pawldials_k72_whole_house_texts_refused_holds : PySem.Challenge.rw_pawldials_k72_whole_house_texts_refused.Holds := by
  refine hdK72 ?_
  k_fill
  refine Pk.walkGT (l := PySem.Challenge.rw_pawldials_k72_whole_house_texts_refused) (n := 63) (k := 18) (x := "_law_script") (sp := Pk.spLaw) ⟨rfl, by decide, by decide⟩ rfl (by decide) rfl (fun w h Y => PySem.W.kIn_of Y) ?G (fun K cs H a ns hl hT hS => ⟨a, ns, rfl, hS, hl, fun p hp => ⟨#[], hT p hp, trivial⟩, fun _ => rfl⟩)
  case G =>
    intro w mg fa h KX G hmg
    refine' Pk.all_mk KX G hmg ?gL ?aIsName ?lIsName ?cIsName ?kIsName ?aRNum ?lRNum ?cRNum ?kRNum ?aWhole ?lWhole ?cWhole ?kWhole ?aTupOf ?lTupOf ?cTupOf ?kTupOf ?aKept ?lKept ?cKept ?kKept ?aPrice ?lPrice ?cPrice ?kPrice ?aIsDial ?lIsDial ?cIsDial ?kIsDial ?aIsSaying ?lIsSaying ?cIsSaying ?kIsSaying ?aIsRule ?lIsRule ?cIsRule ?kIsRule ?aForm ?lForm ?cForm ?kForm ?aFDial ?lFDial ?cFDial ?kFDial ?aFRule ?lFRule ?cFRule ?kFRule ?aFault ?lFault ?cFault ?kFault ?aIsHouse ?lIsHouse ?cIsHouse ?kIsHouse ?aRNums ?lRNums ?cRNums ?kRNums ?aRSay ?lRSay ?cRSay ?kRSay ?aRSays ?lRSays ?cRSays ?kRSays ?aRRule ?lRRule ?cRRule ?kRRule ?aRDial ?lRDial ?cRDial ?kRDial ?aRead ?lRead ?cRead ?kRead ?aPen ?lPen ?cPen ?kPen ?aDraw ?lDraw ?cDraw ?kDraw ?aPick ?lPick ?cPick ?kPick ?aNames ?lNames ?cNames ?kNames ?aDials ?lDials ?cDials ?kDials ?aLNums ?lLNums ?cLNums ?kLNums ?aSayL ?lSayL ?cSayL ?kSayL ?aLSaid ?lLSaid ?cLSaid ?kLSaid ?aLRule ?lLRule ?cLRule ?kLRule ?aHouseL ?lHouseL ?cHouseL ?kHouseL ?aShSay ?lShSay ?cShSay ?kShSay ?aLShow ?lLShow ?cLShow ?kLShow ?aLNum ?lLNum ?cLNum ?kLNum ?aLNm ?lLNm ?cLNm ?kLNm ?aLRSay ?lLRSay ?cLRSay ?kLRSay ?aLRow ?lLRow ?cLRow ?kLRow ?aLHouse ?lLHouse ?cLHouse ?kLHouse ?aLDue ?lLDue ?cLDue ?kLDue ?aLTold ?lLTold ?cLTold ?kLTold ?aLBent ?lLBent ?cLBent ?kLBent ?aLaw ?lLaw ?cLaw ?kLaw ?aNTI ?lNTI ?cNTI ?kNTI ?y_far ?y_great ?y_dear ?y_long ?y_dials ?y_rules ?y_mf ?y_dw ?y_W ?y_S ?y_R ?z_isinstance ?z_bool ?z_int ?z_str ?z_tuple ?z_list ?z_len ?z_all ?z_enumerate ?z_abs ?z_dict ?z_range ?z_repr ?z_sorted ?z_min ?z_max ?z_set ?yG ?lG ?sG1 ?sG2 ?hTIsName ?hPIsName ?hrIsName ?hTRNum ?hPRNum ?hrRNum ?hchk ?hcls ?kG ?eG ?lowG
    (case gL => k_is); (case aIsName => k_is); (case lIsName => k_is); (case cIsName => k_is); (case kIsName => k_is); (case aRNum => k_is); (case lRNum => k_is); (case cRNum => k_is)
    (case kRNum => k_is); (case aWhole => k_is); (case lWhole => k_is); (case cWhole => k_is); (case kWhole => k_is); (case aTupOf => k_is); (case lTupOf => k_is); (case cTupOf => k_is)
    (case kTupOf => k_is); (case aKept => k_is); (case lKept => k_is); (case cKept => k_is); (case kKept => k_is); (case aPrice => k_is); (case lPrice => k_is); (case cPrice => k_is)
    (case kPrice => k_is); (case aIsDial => k_is); (case lIsDial => k_is); (case cIsDial => k_is); (case kIsDial => k_is); (case aIsSaying => k_is); (case lIsSaying => k_is); (case cIsSaying => k_is)
    (case kIsSaying => k_is); (case aIsRule => k_is); (case lIsRule => k_is); (case cIsRule => k_is); (case kIsRule => k_is); (case aForm => k_is); (case lForm => k_is); (case cForm => k_is)
    (case kForm => k_is); (case aFDial => k_is); (case lFDial => k_is); (case cFDial => k_is); (case kFDial => k_is); (case aFRule => k_is); (case lFRule => k_is); (case cFRule => k_is)
    (case kFRule => k_is); (case aFault => k_is); (case lFault => k_is); (case cFault => k_is); (case kFault => k_is); (case aIsHouse => k_is); (case lIsHouse => k_is); (case cIsHouse => k_is)
    (case kIsHouse => k_is); (case aRNums => k_is); (case lRNums => k_is); (case cRNums => k_is); (case kRNums => k_is); (case aRSay => k_is); (case lRSay => k_is); (case cRSay => k_is)
    (case kRSay => k_is); (case aRSays => k_is); (case lRSays => k_is); (case cRSays => k_is); (case kRSays => k_is); (case aRRule => k_is); (case lRRule => k_is); (case cRRule => k_is)
    (case kRRule => k_is); (case aRDial => k_is); (case lRDial => k_is); (case cRDial => k_is); (case kRDial => k_is); (case aRead => k_is); (case lRead => k_is); (case cRead => k_is)
    (case kRead => k_is); (case aPen => k_is); (case lPen => k_is); (case cPen => k_is); (case kPen => k_is); (case aDraw => k_is); (case lDraw => k_is); (case cDraw => k_is)
    (case kDraw => k_is); (case aPick => k_is); (case lPick => k_is); (case cPick => k_is); (case kPick => k_is); (case aNames => k_is); (case lNames => k_is); (case cNames => k_is)
    (case kNames => k_is); (case aDials => k_is); (case lDials => k_is); (case cDials => k_is); (case kDials => k_is); (case aLNums => k_is); (case lLNums => k_is); (case cLNums => k_is)
    (case kLNums => k_is); (case aSayL => k_is); (case lSayL => k_is); (case cSayL => k_is); (case kSayL => k_is); (case aLSaid => k_is); (case lLSaid => k_is); (case cLSaid => k_is)
    (case kLSaid => k_is); (case aLRule => k_is); (case lLRule => k_is); (case cLRule => k_is); (case kLRule => k_is); (case aHouseL => k_is); (case lHouseL => k_is); (case cHouseL => k_is)
    (case kHouseL => k_is); (case aShSay => k_is); (case lShSay => k_is); (case cShSay => k_is); (case kShSay => k_is); (case aLShow => k_is); (case lLShow => k_is); (case cLShow => k_is)
    (case kLShow => k_is); (case aLNum => k_is); (case lLNum => k_is); (case cLNum => k_is); (case kLNum => k_is); (case aLNm => k_is); (case lLNm => k_is); (case cLNm => k_is)
    (case kLNm => k_is); (case aLRSay => k_is); (case lLRSay => k_is); (case cLRSay => k_is); (case kLRSay => k_is); (case aLRow => k_is); (case lLRow => k_is); (case cLRow => k_is)
    (case kLRow => k_is); (case aLHouse => k_is); (case lLHouse => k_is); (case cLHouse => k_is); (case kLHouse => k_is); (case aLDue => k_is); (case lLDue => k_is); (case cLDue => k_is)
    (case kLDue => k_is); (case aLTold => k_is); (case lLTold => k_is); (case cLTold => k_is); (case kLTold => k_is); (case aLBent => k_is); (case lLBent => k_is); (case cLBent => k_is)
    (case kLBent => k_is); (case aLaw => k_is); (case lLaw => k_is); (case cLaw => k_is); (case kLaw => k_is); (case aNTI => k_is); (case lNTI => k_is); (case cNTI => k_is)
    (case kNTI => k_is); (case y_far => k_is); (case y_great => k_is); (case y_dear => k_is); (case y_long => k_is); (case y_dials => k_is); (case y_rules => k_is); (case y_mf => k_is)
    (case y_dw => k_is); (case y_W => k_is); (case y_S => k_is); (case y_R => k_is); (case z_isinstance => k_is); (case z_bool => k_is); (case z_int => k_is); (case z_str => k_is)
    (case z_tuple => k_is); (case z_list => k_is); (case z_len => k_is); (case z_all => k_is); (case z_enumerate => k_is); (case z_abs => k_is); (case z_dict => k_is); (case z_range => k_is)
    (case z_repr => k_is); (case z_sorted => k_is); (case z_min => k_is); (case z_max => k_is); (case z_set => k_is); (case yG => k_is); (case lG => k_is); (case sG1 => k_is)
    (case sG2 => k_is)
    (case hTIsName => refine' Pk.tab_in ?a ?l ?hc ?lc ?hv; (case a => k_is); (case l => k_is); (case hc => rfl); (case lc => k_is); (case hv => rfl))
    (case hPIsName => kernel_rfl)
    (case hrIsName => kernel_rfl)
    (case hTRNum => refine' Pk.tab_in ?a ?l ?hc ?lc ?hv; (case a => k_is); (case l => k_is); (case hc => rfl); (case lc => k_is); (case hv => rfl))
    (case hPRNum => kernel_rfl)
    (case hrRNum => kernel_rfl)
    (case hchk => kernel_rfl)
    (case hcls => kernel_rfl)
    (case kG => exact ⟨⟨_, _, rfl, rfl⟩, ⟨_, _, rfl, rfl⟩, trivial⟩)
    (case eG => rfl)
    (case lowG => kernel_rfl)
