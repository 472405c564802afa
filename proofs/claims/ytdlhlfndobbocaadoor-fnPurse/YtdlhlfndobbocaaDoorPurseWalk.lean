/-
  The law FnPurse at every code that it draws from: it returns true.
-/
import Derived.Test.YtdlhlfndobbocaaDoorPurseKit
import Derived.Deep.CutBlock
namespace Go.Proofs.YtdlhlfndobbocaaDoor
open Go.RowKit
open Mth
set_option maxRecDepth 100000 in
set_option maxHeartbeats 16000000 in
theorem fnPurse_go (a : Option Addr) (len cap : Nat) (E : Nat → Addr) (w : World) (hcode : CodeOk w a len) (he : Errs w E) : Calls Tryd.prog 3 #[.slice a len cap] w fun e w' => e = .returned (.bool true) ∧ Below w.heap.size w w' := by
  have hl := hcode.1
  have HC := hide hcode
  have HE := hide he
  clear hcode he
  go_enter Tryd.func3, Tryd.ntmps3
  go_wp2_with fail
  refine (bigNo a len cap _ hl).mono ?_
  rintro e w0 ⟨rfl, rfl⟩
  go_wp2_with fail
  refine (drawSpend a len cap _ (unhide HC)).mono ?_
  rintro e w1 ⟨g, cp, l, key, n, rfl, h1, h2, h3, h4, h5, h6⟩
  have hsh : Short l := ⟨h1, h3⟩
  have HS := hide (St.put ⟨(unhide HE).below h6, (fun x hx => by simp at hx : ∀ x ∈ ([] : List (Option Addr × List Pu)), PursesAt w1 x.1 x.2), h6⟩ h5)
  have HSH := hide hsh
  have HKEY := hide h4
  have HIS := hide (fun fs W (hm : (some (⟨g, 0, none⟩ : Addr), l) ∈ fs) (hs : St w E fs W) => gives_p hs (implSpend (some ⟨g, 0, none⟩) cp l key n E W (by omega) (fun p hp => Nat.le_trans (h3 p hp) (by omega)) (by omega) (hs.lies _ hm) hs.err))
  have HPS := hide (fun fs W (hm : (some (⟨g, 0, none⟩ : Addr), l) ∈ fs) (hs : St w E fs W) => gives_o hs (specSpend g 0 cp l key n W (by omega) h2 (fun p hp => Nat.le_trans (h3 p hp) (by omega)) (by omega) (hs.lies _ hm)))
  have MS := hide (moved (key := key) (dm := 0) (df := (-1)) (ds := 1) (n := n) hsh)
  have HIM := hide (fun fs W (hm : (some (⟨g, 0, none⟩ : Addr), l) ∈ fs) (hs : St w E fs W) => gives_p hs (implMint (some ⟨g, 0, none⟩) cp l key n E W (by omega) (fun p hp => Nat.le_trans (h3 p hp) (by omega)) (by omega) (hs.lies _ hm) hs.err))
  have HPM := hide (fun fs W (hm : (some (⟨g, 0, none⟩ : Addr), l) ∈ fs) (hs : St w E fs W) => gives_o hs (specMint g 0 cp l key n W (by omega) h2 (fun p hp => Nat.le_trans (h3 p hp) (by omega)) (by omega) (hs.lies _ hm)))
  have MM := hide (moved (key := key) (dm := 1) (df := 1) (ds := 0) (n := n) hsh)
  have HIG := hide (fun fs W (hm : (some (⟨g, 0, none⟩ : Addr), l) ∈ fs) (hs : St w E fs W) => gives_p hs (implGain (some ⟨g, 0, none⟩) cp l key n E W (by omega) (fun p hp => Nat.le_trans (h3 p hp) (by omega)) (by omega) (hs.lies _ hm) hs.err))
  have HPG := hide (fun fs W (hm : (some (⟨g, 0, none⟩ : Addr), l) ∈ fs) (hs : St w E fs W) => gives_o hs (specGain g 0 cp l key n W (by omega) h2 (fun p hp => Nat.le_trans (h3 p hp) (by omega)) (by omega) (hs.lies _ hm)))
  have MG := hide (moved (key := key) (dm := 0) (df := 1) (ds := 0) (n := n) hsh)
  have HIP := hide (fun fs W (hm : (some (⟨g, 0, none⟩ : Addr), l) ∈ fs) (hs : St w E fs W) => gives_p hs (implPart (some ⟨g, 0, none⟩) cp l key n E W (by omega) (fun p hp => Nat.le_trans (h3 p hp) (by omega)) (by omega) (hs.lies _ hm) hs.err))
  have HPP := hide (fun fs W (hm : (some (⟨g, 0, none⟩ : Addr), l) ∈ fs) (hs : St w E fs W) => gives_o hs (specPart g 0 cp l key n W (by omega) h2 (fun p hp => Nat.le_trans (h3 p hp) (by omega)) (by omega) (hs.lies _ hm)))
  have MP := hide (moved (key := key) (dm := 0) (df := (-1)) (ds := 0) (n := n) hsh)
  have HIU := hide (fun fs W (hm : (some (⟨g, 0, none⟩ : Addr), l) ∈ fs) (hs : St w E fs W) => gives_p hs (implUnspend (some ⟨g, 0, none⟩) cp l key n E W (by omega) (fun p hp => Nat.le_trans (h3 p hp) (by omega)) (by omega) (hs.lies _ hm) hs.err))
  have HPU := hide (fun fs W (hm : (some (⟨g, 0, none⟩ : Addr), l) ∈ fs) (hs : St w E fs W) => gives_o hs (specUnspend g 0 cp l key n W (by omega) h2 (fun p hp => Nat.le_trans (h3 p hp) (by omega)) (by omega) (hs.lies _ hm)))
  have MU := hide (moved (key := key) (dm := 0) (df := 1) (ds := (-1)) (n := n) hsh)
  have HBK := hide (fun h => spend_back (l := l) (key := key) (n := n) h)
  have HSHS := (unhide MS).short
  have HIB := hide (fun fs W a1 c1 (hm : (a1, (addP l key 0 (-1) 1 n).1) ∈ fs) (hs : St w E fs W) => gives_p hs (implUnspend a1 c1 (addP l key 0 (-1) 1 n).1 key n E W (by have := HSHS.1; omega) (fun p hp => Nat.le_trans (HSHS.2 p hp) (by omega)) (by omega) (hs.lies _ hm) hs.err))
  have MB := hide (moved (key := key) (dm := 0) (df := 1) (ds := -1) (n := n) HSHS)
  clear HSHS hsh h1 h2 h3 h4 h5 h6 HC HE
  generalize addP l key 0 (-1) 1 n = RS at *
  generalize addP l key 1 1 0 n = RM at *
  generalize addP l key 0 1 0 n = RG at *
  generalize addP l key 0 (-1) 0 n = RP at *
  generalize addP l key 0 1 (-1) n = RU at *
  obtain ⟨LS, bS⟩ := RS
  obtain ⟨LM, bM⟩ := RM
  obtain ⟨LG, bG⟩ := RG
  obtain ⟨LP, bP⟩ := RP
  obtain ⟨LU, bU⟩ := RU
  dsimp only at HBK HIB MB
  generalize addP LS key 0 1 (-1) n = RB at *
  obtain ⟨LB, bB⟩ := RB
  unfold Gives at *
  dsimp only at *
  have NS := hide (unhide MS).no
  have YS := hide (unhide MS).yes
  have ZS := hide (unhide MS).short
  clear MS
  have NM := hide (unhide MM).no
  have YM := hide (unhide MM).yes
  have ZM := hide (unhide MM).short
  clear MM
  have NG := hide (unhide MG).no
  have YG := hide (unhide MG).yes
  have ZG := hide (unhide MG).short
  clear MG
  have NP := hide (unhide MP).no
  have YP := hide (unhide MP).yes
  have ZP := hide (unhide MP).short
  clear MP
  have NU := hide (unhide MU).no
  have YU := hide (unhide MU).yes
  have ZU := hide (unhide MU).short
  clear MU
  have NB := hide (unhide MB).no
  have YB := hide (unhide MB).yes
  have ZB := hide (unhide MB).short
  clear MB
  clear NB YB NG NU YU
  dsimp only at *
  have QOI := hide (fun fs W a1 c1 (hm : (a1, l) ∈ fs) (hs : St w E fs W) => cOkI a1 c1 l (unhide HSH) hm hs)
  have QOS := hide (fun fs W a1 c1 (hm : (a1, l) ∈ fs) (hs : St w E fs W) => cOkS a1 c1 l (unhide HSH) hm hs)
  have QPI := hide (fun fs W a1 c1 (hm : (a1, l) ∈ fs) (hs : St w E fs W) => cOfI a1 c1 l key (unhide HSH) (unhide HKEY) hm hs)
  have QPS := hide (fun fs W a1 c1 (hm : (a1, l) ∈ fs) (hs : St w E fs W) => cOfS a1 c1 l key (unhide HSH) hm hs)
  have QHI := hide (fun fs W a1 c1 (hm : (a1, l) ∈ fs) (hs : St w E fs W) => cHoI a1 c1 l key (unhide HSH) (unhide HKEY) hm hs)
  have QHS := hide (fun fs W a1 c1 (hm : (a1, l) ∈ fs) (hs : St w E fs W) => cHoS a1 c1 l key (unhide HSH) hm hs)
  have QHIS := hide (fun fs W a1 c1 (hm : (a1, LS) ∈ fs) (hs : St w E fs W) => cHoI a1 c1 LS key (unhide ZS) (unhide HKEY) hm hs)
  have QOIS := hide (fun fs W a1 c1 (hm : (a1, LS) ∈ fs) (hs : St w E fs W) => cOkI a1 c1 LS (unhide ZS) hm hs)
  have QPIB := hide (fun fs W a1 c1 (hm : (a1, LB) ∈ fs) (hs : St w E fs W) => cOfI a1 c1 LB key (unhide ZB) (unhide HKEY) hm hs)
  have QHIG := hide (fun fs W a1 c1 (hm : (a1, LG) ∈ fs) (hs : St w E fs W) => cHoI a1 c1 LG key (unhide ZG) (unhide HKEY) hm hs)
  have QOIG := hide (fun fs W a1 c1 (hm : (a1, LG) ∈ fs) (hs : St w E fs W) => cOkI a1 c1 LG (unhide ZG) hm hs)
  have QHIP := hide (fun fs W a1 c1 (hm : (a1, LP) ∈ fs) (hs : St w E fs W) => cHoI a1 c1 LP key (unhide ZP) (unhide HKEY) hm hs)
  have QPIM := hide (fun fs W a1 c1 (hm : (a1, LM) ∈ fs) (hs : St w E fs W) => cOfI a1 c1 LM key (unhide ZM) (unhide HKEY) hm hs)
  have QHIM := hide (fun fs W a1 c1 (hm : (a1, LM) ∈ fs) (hs : St w E fs W) => cHoI a1 c1 LM key (unhide ZM) (unhide HKEY) hm hs)
  generalize wrap64 (hold l key) = h0 at *
  generalize wrap64 (hold LS key) = hS at *
  generalize wrap64 (hold LG key) = hG at *
  generalize wrap64 (hold LP key) = hP at *
  generalize wrap64 (hold LM key) = hM at *
  generalize psOk l = o0 at *
  generalize psOk LS = oS at *
  generalize psOk LG = oG at *
  generalize psOk LP = oP at *
  generalize psOk LM = oM at *
  generalize purseOf l key = p0 at *
  generalize purseOf LB key = pB at *
  generalize purseOf LM key = pM at *
  generalize purseOf LS key = pS at *
  generalize purseOf LG key = pG at *
  generalize purseOf LP key = pP at *
  obtain ⟨k0, m0, f0, s0⟩ := p0
  obtain ⟨kB, mB, fB, sB⟩ := pB
  obtain ⟨kM, mM, fM, sM⟩ := pM
  dsimp only [puv] at *
  go_wp2_with fail
  refine (unhide HIS _ _ (by simp) (unhide HS)).mono ?_
  rintro e w2 ⟨aIS, cIS, rfl, hs⟩
  have HS1 := hide hs
  clear hs HS HIS
  go_wp2_with fail
  refine (unhide HIM _ _ (by simp) (unhide HS1)).mono ?_
  rintro e w3 ⟨aIM, cIM, rfl, hs⟩
  have HS2 := hide hs
  clear hs HS1 HIM
  go_wp2_with fail
  refine (unhide HIG _ _ (by simp) (unhide HS2)).mono ?_
  rintro e w4 ⟨aIG, cIG, rfl, hs⟩
  have HS3 := hide hs
  clear hs HS2 HIG
  go_wp2_with fail
  refine (unhide HIP _ _ (by simp) (unhide HS3)).mono ?_
  rintro e w5 ⟨aIP, cIP, rfl, hs⟩
  have HS4 := hide hs
  clear hs HS3 HIP
  go_wp2_with fail
  refine (unhide HIU _ _ (by simp) (unhide HS4)).mono ?_
  rintro e w6 ⟨aIU, cIU, rfl, hs⟩
  have HS5 := hide hs
  clear hs HS4 HIU
  go_wp2_with fail
  refine (unhide HPS _ _ (by simp) (unhide HS5)).mono ?_
  rintro e w7 ⟨aPS, cPS, rfl, hs⟩
  have HS6 := hide hs
  clear hs HS5 HPS
  go_wp2_with fail
  refine (unhide HPM _ _ (by simp) (unhide HS6)).mono ?_
  rintro e w8 ⟨aPM, cPM, rfl, hs⟩
  have HS7 := hide hs
  clear hs HS6 HPM
  go_wp2_with fail
  refine (unhide HPG _ _ (by simp) (unhide HS7)).mono ?_
  rintro e w9 ⟨aPG, cPG, rfl, hs⟩
  have HS8 := hide hs
  clear hs HS7 HPG
  go_wp2_with fail
  refine (unhide HPP _ _ (by simp) (unhide HS8)).mono ?_
  rintro e w10 ⟨aPP, cPP, rfl, hs⟩
  have HS9 := hide hs
  clear hs HS8 HPP
  go_wp2_with fail
  refine (unhide HPU _ _ (by simp) (unhide HS9)).mono ?_
  rintro e w11 ⟨aPU, cPU, rfl, hs⟩
  have HS10 := hide hs
  clear hs HS9 HPU
  obtain ⟨fs, ml_, mIS_, mIM_, mIG_, mIP_, mIU_, mPS_, mPM_, mPG_, mPP_, mPU_, hs⟩ : ∃ fs, ((some (⟨g, 0, none⟩ : Addr)), l) ∈ fs ∧ (aIS, LS) ∈ fs ∧ (aIM, LM) ∈ fs ∧ (aIG, LG) ∈ fs ∧ (aIP, LP) ∈ fs ∧ (aIU, LU) ∈ fs ∧ (aPS, LS) ∈ fs ∧ (aPM, LM) ∈ fs ∧ (aPG, LG) ∈ fs ∧ (aPP, LP) ∈ fs ∧ (aPU, LU) ∈ fs ∧ St w E fs w11 := ⟨_, by simp, by simp, by simp, by simp, by simp, by simp, by simp, by simp, by simp, by simp, by simp, unhide HS10⟩
  have ml := hide ml_
  have mIS := hide mIS_
  have mIM := hide mIM_
  have mIG := hide mIG_
  have mIP := hide mIP_
  have mIU := hide mIU_
  have mPS := hide mPS_
  have mPM := hide mPM_
  have mPG := hide mPG_
  have mPP := hide mPP_
  have mPU := hide mPU_
  clear ml_ mIS_ mIM_ mIG_ mIP_ mIU_ mPS_ mPM_ mPG_ mPP_ mPU_ HS10
  have HT0 := hide hs
  clear hs
  as_aux_lemma =>
  go_upto_region 14 with fail
  go_cut [175] (fun r wx => r = .bool false ∧ St w E fs wx)
  case first =>
    as_aux_lemma =>
    go_wp2_with fail
    refine (cSame _ _ _ _ LS (unhide ZS) (unhide mIS) (unhide mPS) (unhide HT0)).mono ?_
    rintro e v0 ⟨rfl, hs⟩
    have HT1 := hide hs
    clear hs HT0
    go_wp2_with fail
    refine (cSame _ _ _ _ LM (unhide ZM) (unhide mIM) (unhide mPM) (unhide HT1)).mono ?_
    rintro e v1 ⟨rfl, hs⟩
    have HT2 := hide hs
    clear hs HT1
    go_wp2_with fail
    refine (cSame _ _ _ _ LG (unhide ZG) (unhide mIG) (unhide mPG) (unhide HT2)).mono ?_
    rintro e v2 ⟨rfl, hs⟩
    have HT3 := hide hs
    clear hs HT2
    go_wp2_with fail
    refine (cSame _ _ _ _ LP (unhide ZP) (unhide mIP) (unhide mPP) (unhide HT3)).mono ?_
    rintro e v3 ⟨rfl, hs⟩
    have HT4 := hide hs
    clear hs HT3
    go_wp2_with fail
    refine (cSame _ _ _ _ LU (unhide ZU) (unhide mIU) (unhide mPU) (unhide HT4)).mono ?_
    rintro e v4 ⟨rfl, hs⟩
    have HT5 := hide hs
    clear hs HT4
    go_wp2_with fail
    refine (unhide QOI _ _ _ _ (unhide ml) (unhide HT5)).mono ?_
    rintro e v5 ⟨rfl, hs⟩
    have HT6 := hide hs
    clear hs HT5
    go_wp2_with fail
    refine (unhide QOS _ _ _ _ (unhide ml) (unhide HT6)).mono ?_
    rintro e v6 ⟨rfl, hs⟩
    have HT7 := hide hs
    clear hs HT6
    go_wp2_with fail
    refine (unhide QPI _ _ _ _ (unhide ml) (unhide HT7)).mono ?_
    rintro e v7 ⟨rfl, hs⟩
    have HT8 := hide hs
    clear hs HT7
    go_wp2_with fail
    refine (unhide QPS _ _ _ _ (unhide ml) (unhide HT8)).mono ?_
    rintro e v8 ⟨rfl, hs⟩
    have HT9 := hide hs
    clear hs HT8
    go_wp2_with fail
    go_meet
    case rel => exact ⟨rfl, unhide HT9⟩
  case rest =>
    as_aux_lemma =>
    obtain ⟨rfl, hs⟩ := hcut
    clear HT0 QOI QOS QPS
    have HT9 := hide hs
    clear hs
    go_wp2_with fail
    refine (unhide QHI _ _ _ _ (unhide ml) (unhide HT9)).mono ?_
    rintro e v9 ⟨rfl, hs⟩
    have HT10 := hide hs
    clear hs HT9
    go_upto_region 17 with fail
    go_cut [213] (fun r wx => r = .bool false ∧ St w E fs wx)
    case first =>
      go_wp2_with fail
      refine (unhide QHS _ _ _ _ (unhide ml) (unhide HT10)).mono ?_
      rintro e v10 ⟨rfl, hs⟩
      have HT11 := hide hs
      clear hs HT10
      cases bS
      case' false =>
        go_wp2_with fail
        refine (cSameE _ _ _ _ LS l (unhide NS (by simp)) (unhide HSH) (unhide mIS) (unhide ml) (unhide HT11)).mono ?_
        rintro e v11 ⟨rfl, hs⟩
        have HT12 := hide hs
        clear hs HT11
        cases bM
        case' false =>
          as_aux_lemma =>
          go_wp2_with fail
          refine (cSameE _ _ _ _ LM l (unhide NM (by simp)) (unhide HSH) (unhide mIM) (unhide ml) (unhide HT12)).mono ?_
          rintro e v12 ⟨rfl, hs⟩
          have HT13 := hide hs
          clear hs HT12
          cases bP
          case' false =>
            go_wp2_with fail
            refine (cSameE _ _ _ _ LP l (unhide NP (by simp)) (unhide HSH) (unhide mIP) (unhide ml) (unhide HT13)).mono ?_
            rintro e v13 ⟨rfl, hs⟩
            have HT14 := hide hs
            clear hs HT13
            go_wp2_with fail
            go_meet
            case rel => exact ⟨rfl, unhide HT14⟩
          case' true =>
            go_wp2_with fail
            go_meet
            case rel => exact ⟨rfl, unhide HT13⟩
        case' true =>
          as_aux_lemma =>
          cases bP
          case' false =>
            go_wp2_with fail
            refine (cSameE _ _ _ _ LP l (unhide NP (by simp)) (unhide HSH) (unhide mIP) (unhide ml) (unhide HT12)).mono ?_
            rintro e v12 ⟨rfl, hs⟩
            have HT13 := hide hs
            clear hs HT12
            go_wp2_with fail
            go_meet
            case rel => exact ⟨rfl, unhide HT13⟩
          case' true =>
            go_wp2_with fail
            go_meet
            case rel => exact ⟨rfl, unhide HT12⟩
      case' true =>
        cases bM
        case' false =>
          as_aux_lemma =>
          go_wp2_with fail
          refine (cSameE _ _ _ _ LM l (unhide NM (by simp)) (unhide HSH) (unhide mIM) (unhide ml) (unhide HT11)).mono ?_
          rintro e v11 ⟨rfl, hs⟩
          have HT12 := hide hs
          clear hs HT11
          cases bP
          case' false =>
            go_wp2_with fail
            refine (cSameE _ _ _ _ LP l (unhide NP (by simp)) (unhide HSH) (unhide mIP) (unhide ml) (unhide HT12)).mono ?_
            rintro e v12 ⟨rfl, hs⟩
            have HT13 := hide hs
            clear hs HT12
            go_wp2_with fail
            go_meet
            case rel => exact ⟨rfl, unhide HT13⟩
          case' true =>
            go_wp2_with fail
            go_meet
            case rel => exact ⟨rfl, unhide HT12⟩
        case' true =>
          as_aux_lemma =>
          cases bP
          case' false =>
            go_wp2_with fail
            refine (cSameE _ _ _ _ LP l (unhide NP (by simp)) (unhide HSH) (unhide mIP) (unhide ml) (unhide HT11)).mono ?_
            rintro e v11 ⟨rfl, hs⟩
            have HT12 := hide hs
            clear hs HT11
            go_wp2_with fail
            go_meet
            case rel => exact ⟨rfl, unhide HT12⟩
          case' true =>
            go_wp2_with fail
            go_meet
            case rel => exact ⟨rfl, unhide HT11⟩
    case rest =>
      as_aux_lemma =>
      obtain ⟨rfl, hs⟩ := hcut
      clear HT10 QHS
      have HT11 := hide hs
      clear hs
      go_upto_if 214 with fail
      go_cut [2] (fun r wx => r = .bool false ∧ St w E fs wx)
      case first =>
        cases bS
        case' false =>
          go_wp2_with fail
          go_meet
          case rel => exact ⟨rfl, unhide HT11⟩
        case' true =>
          as_aux_lemma =>
          obtain ⟨hbB, hpB⟩ := unhide HBK rfl
          obtain ⟨rfl, _, _, hh, _, _, _⟩ := unhide YS rfl
          obtain rfl : hS = h0 := by omega
          subst hbB
          injection hpB with x1 x2 x3 x4
          subst x1 x2 x3 x4
          clear hh
          go_wp2_with fail
          refine (unhide HIB _ _ _ _ (unhide mIS) (unhide HT11)).mono ?_
          rintro e v11 ⟨aB, cB, rfl, hs⟩
          have HT12 := hide hs
          clear hs HT11
          go_wp2_with fail
          refine (unhide QPIB _ _ _ _ (by simp) (unhide HT12)).mono ?_
          rintro e v12 ⟨rfl, hs⟩
          have HT13 := hide hs
          clear hs HT12
          go_wp2_with fail
          refine (unhide QPI _ _ _ _ (List.mem_cons_of_mem _ (unhide ml)) (unhide HT13)).mono ?_
          rintro e v13 ⟨rfl, hs⟩
          have HT14 := hide hs
          clear hs HT13
          go_wp2_with fail
          refine (unhide QHIS _ _ _ _ (List.mem_cons_of_mem _ (unhide mIS)) (unhide HT14)).mono ?_
          rintro e v14 ⟨rfl, hs⟩
          have HT15 := hide hs
          clear hs HT14
          go_wp2_with fail
          refine (unhide QOIS _ _ _ _ (List.mem_cons_of_mem _ (unhide mIS)) (unhide HT15)).mono ?_
          rintro e v15 ⟨rfl, hs⟩
          have HT16 := hide hs
          clear hs HT15
          go_wp2_with fail
          go_meet
          case rel => exact ⟨rfl, (unhide HT16).drop⟩
      case rest =>
        as_aux_lemma =>
        obtain ⟨rfl, hs⟩ := hcut
        clear HT11 QHIS QOIS QPIB HIB HBK YS
        have HT12 := hide hs
        clear hs
        cases bG
        case' false =>
          cases bP
          case' false =>
            as_aux_lemma =>
            cases bM
            case' false =>
              go_wp2_with fail
              go_ret
              exact ⟨rfl, (unhide HT12).bel⟩
            case' true =>
              obtain ⟨q1, ⟨q2, q3⟩, ⟨q4, q5⟩, q6, q7, q8, q9⟩ := unhide YM rfl
              obtain rfl : hM = h0 + n := by omega
              obtain rfl : mM = m0 + n := by omega
              have E3 : IntKind.i64.wrap (m0 + n) = m0 + n := IntWalk.i64_in _ ⟨by omega, by omega⟩
              have E1M : IntKind.i64.wrap (h0 + n) = h0 + n := IntWalk.i64_in _ ⟨by omega, by omega⟩
              clear q6 q7
              go_wp2_with fail
              refine (unhide QPIM _ _ _ _ (unhide mIM) (unhide HT12)).mono ?_
              rintro e v12 ⟨rfl, hs⟩
              have HT13 := hide hs
              clear hs HT12
              go_wp2_with fail
              rw [fieldM]
              go_wp2_with fail
              refine (unhide QPI _ _ _ _ (unhide ml) (unhide HT13)).mono ?_
              rintro e v13 ⟨rfl, hs⟩
              have HT14 := hide hs
              clear hs HT13
              go_wp2_with fail
              rw [fieldM]
              go_wp2_with fail
              refine (unhide QHIM _ _ _ _ (unhide mIM) (unhide HT14)).mono ?_
              rintro e v14 ⟨rfl, hs⟩
              have HT15 := hide hs
              clear hs HT14
              go_wp2_with fail
              go_ret
              exact ⟨rfl, (unhide HT15).bel⟩
          case' true =>
            as_aux_lemma =>
            obtain ⟨q1, ⟨q2, q3⟩, ⟨q4, q5⟩, q6, q7, q8, q9⟩ := unhide YP rfl
            obtain rfl : hP = h0 - n := by omega
            have E1P : IntKind.i64.wrap (h0 - n) = h0 - n := IntWalk.i64_in _ ⟨by omega, by omega⟩
            clear q6 q7
            go_wp2_with fail
            refine (unhide QHIP _ _ _ _ (unhide mIP) (unhide HT12)).mono ?_
            rintro e v12 ⟨rfl, hs⟩
            have HT13 := hide hs
            clear hs HT12
            cases bM
            case' false =>
              go_wp2_with fail
              go_ret
              exact ⟨rfl, (unhide HT13).bel⟩
            case' true =>
              obtain ⟨q1, ⟨q2, q3⟩, ⟨q4, q5⟩, q6, q7, q8, q9⟩ := unhide YM rfl
              obtain rfl : hM = h0 + n := by omega
              obtain rfl : mM = m0 + n := by omega
              have E3 : IntKind.i64.wrap (m0 + n) = m0 + n := IntWalk.i64_in _ ⟨by omega, by omega⟩
              have E1M : IntKind.i64.wrap (h0 + n) = h0 + n := IntWalk.i64_in _ ⟨by omega, by omega⟩
              clear q6 q7
              go_wp2_with fail
              refine (unhide QPIM _ _ _ _ (unhide mIM) (unhide HT13)).mono ?_
              rintro e v13 ⟨rfl, hs⟩
              have HT14 := hide hs
              clear hs HT13
              go_wp2_with fail
              rw [fieldM]
              go_wp2_with fail
              refine (unhide QPI _ _ _ _ (unhide ml) (unhide HT14)).mono ?_
              rintro e v14 ⟨rfl, hs⟩
              have HT15 := hide hs
              clear hs HT14
              go_wp2_with fail
              rw [fieldM]
              go_wp2_with fail
              refine (unhide QHIM _ _ _ _ (unhide mIM) (unhide HT15)).mono ?_
              rintro e v15 ⟨rfl, hs⟩
              have HT16 := hide hs
              clear hs HT15
              go_wp2_with fail
              go_ret
              exact ⟨rfl, (unhide HT16).bel⟩
        case' true =>
          obtain ⟨q1, ⟨q2, q3⟩, ⟨q4, q5⟩, q6, q7, q8, q9⟩ := unhide YG rfl
          obtain rfl : hG = h0 + n := by omega
          subst q1
          have E1G : IntKind.i64.wrap (h0 + n) = h0 + n := IntWalk.i64_in _ ⟨by omega, by omega⟩
          clear q6 q7
          go_wp2_with fail
          refine (unhide QHIG _ _ _ _ (unhide mIG) (unhide HT12)).mono ?_
          rintro e v12 ⟨rfl, hs⟩
          have HT13 := hide hs
          clear hs HT12
          go_wp2_with fail
          refine (unhide QOIG _ _ _ _ (unhide mIG) (unhide HT13)).mono ?_
          rintro e v13 ⟨rfl, hs⟩
          have HT14 := hide hs
          clear hs HT13
          cases bP
          case' false =>
            as_aux_lemma =>
            cases bM
            case' false =>
              go_wp2_with fail
              go_ret
              exact ⟨rfl, (unhide HT14).bel⟩
            case' true =>
              obtain ⟨q1, ⟨q2, q3⟩, ⟨q4, q5⟩, q6, q7, q8, q9⟩ := unhide YM rfl
              obtain rfl : hM = h0 + n := by omega
              obtain rfl : mM = m0 + n := by omega
              have E3 : IntKind.i64.wrap (m0 + n) = m0 + n := IntWalk.i64_in _ ⟨by omega, by omega⟩
              have E1M : IntKind.i64.wrap (h0 + n) = h0 + n := IntWalk.i64_in _ ⟨by omega, by omega⟩
              clear q6 q7
              go_wp2_with fail
              refine (unhide QPIM _ _ _ _ (unhide mIM) (unhide HT14)).mono ?_
              rintro e v14 ⟨rfl, hs⟩
              have HT15 := hide hs
              clear hs HT14
              go_wp2_with fail
              rw [fieldM]
              go_wp2_with fail
              refine (unhide QPI _ _ _ _ (unhide ml) (unhide HT15)).mono ?_
              rintro e v15 ⟨rfl, hs⟩
              have HT16 := hide hs
              clear hs HT15
              go_wp2_with fail
              rw [fieldM]
              go_wp2_with fail
              refine (unhide QHIM _ _ _ _ (unhide mIM) (unhide HT16)).mono ?_
              rintro e v16 ⟨rfl, hs⟩
              have HT17 := hide hs
              clear hs HT16
              go_wp2_with fail
              go_ret
              exact ⟨rfl, (unhide HT17).bel⟩
          case' true =>
            as_aux_lemma =>
            obtain ⟨q1, ⟨q2, q3⟩, ⟨q4, q5⟩, q6, q7, q8, q9⟩ := unhide YP rfl
            obtain rfl : hP = h0 - n := by omega
            have E1P : IntKind.i64.wrap (h0 - n) = h0 - n := IntWalk.i64_in _ ⟨by omega, by omega⟩
            clear q6 q7
            go_wp2_with fail
            refine (unhide QHIP _ _ _ _ (unhide mIP) (unhide HT14)).mono ?_
            rintro e v14 ⟨rfl, hs⟩
            have HT15 := hide hs
            clear hs HT14
            cases bM
            case' false =>
              go_wp2_with fail
              go_ret
              exact ⟨rfl, (unhide HT15).bel⟩
            case' true =>
              obtain ⟨q1, ⟨q2, q3⟩, ⟨q4, q5⟩, q6, q7, q8, q9⟩ := unhide YM rfl
              obtain rfl : hM = h0 + n := by omega
              obtain rfl : mM = m0 + n := by omega
              have E3 : IntKind.i64.wrap (m0 + n) = m0 + n := IntWalk.i64_in _ ⟨by omega, by omega⟩
              have E1M : IntKind.i64.wrap (h0 + n) = h0 + n := IntWalk.i64_in _ ⟨by omega, by omega⟩
              clear q6 q7
              go_wp2_with fail
              refine (unhide QPIM _ _ _ _ (unhide mIM) (unhide HT15)).mono ?_
              rintro e v15 ⟨rfl, hs⟩
              have HT16 := hide hs
              clear hs HT15
              go_wp2_with fail
              rw [fieldM]
              go_wp2_with fail
              refine (unhide QPI _ _ _ _ (unhide ml) (unhide HT16)).mono ?_
              rintro e v16 ⟨rfl, hs⟩
              have HT17 := hide hs
              clear hs HT16
              go_wp2_with fail
              rw [fieldM]
              go_wp2_with fail
              refine (unhide QHIM _ _ _ _ (unhide mIM) (unhide HT17)).mono ?_
              rintro e v17 ⟨rfl, hs⟩
              have HT18 := hide hs
              clear hs HT17
              go_wp2_with fail
              go_ret
              exact ⟨rfl, (unhide HT18).bel⟩
end Go.Proofs.YtdlhlfndobbocaaDoor
