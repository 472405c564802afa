/- Parts. -/
import Derived.Test.YtacgbldlonoaaaaGreatDoorRw23
import Derived.Test.YtacgbldlonoaaaaGreatDoorRw26
namespace Go.Proofs.YtacgbldlonoaaaaGreatDoor
open Go.Proofs.Tryz
set_option maxHeartbeats 2000000
set_option maxRecDepth 100000
open Go.RowKit
open Mth
variable (s:ByteArray) {a g:Nat} {o:fP} {L:List fP} {n:Nd} {m:Mg} {w:World}
def BytesAt (w:World) (g:Nat) (s:ByteArray):Prop:=∀i (hi:i < s.size),w.cell? ⟨g,i,none⟩=some (.int .u8 (s[i].toNat:Int))
theorem BytesAt.below {w':World} {s:ByteArray} (h:BytesAt w g s) (hg:g < w.heap.size) (hb:aY w w'):BytesAt w' g s:=λi hi=>by rw [(CS hb).1 g i hg];exact h i hi
theorem adT (b off i:Nat):(⟨b,off,none⟩:Addr).add i=⟨b,off+i,none⟩:=by unfold Addr.add;split<;>simp_all
theorem uo {s:ByteArray} (h:BytesAt w g s) (lo n cap:Nat) (hn:lo+n<=s.size):(convert 22 9 (.slice (some ⟨g,lo,none⟩) n cap)).run prog w= .ok (.string (s.extract lo (lo+n))) w:=by
 have hl:(s.extract lo (lo+n)).data.toList.length=n:=by rw [aH,ByteArray.size_extract];omega
 have hc:=run_convert_bytes_back (P:=prog) w 22 9 5 ⟨g,lo,none⟩ cap (s.extract lo (lo+n)).data.toList underlying22 underlying5 underlying9 (λj hj=>by
  rw [adT,h (lo+j) Aaa]
  congr 3
  have e:(s.extract lo (lo+n)).data.toList[j]=s.data.toList[lo+j]'(by rw [aH];omega):=by
   simp only[Lib.extract_data];rw [List.getElem_take,List.getElem_drop]
  rw [e]
  rfl)
 rw [hl] at hc;exact hc
theorem SH (w:World):∃(cap:Nat) (w1:World),(convert 9 22 (.string s)).run prog w= .ok (.slice (some ⟨w.heap.size,0,none⟩) s.size cap) w1/\s.size<=cap/\BytesAt w1 w.heap.size s/\w.heap.size < w1.heap.size/\aY w w1:=by
 refine⟨_,_,run_bytes_of_string (P:=prog) w 9 22 5 s underlying9 underlying22 underlying5,?_,?_,?_,?_⟩
 .exact grownCap_ge w s.size 0 5
 .intro i hi;have h:=World.cell?_alloc_mark w.drew (bytesRow s (grownCap w s.size 0 5)) 5 ((bytesRow s (grownCap w s.size 0 5)).size,(bytesRow s (grownCap w s.size 0 5)).size+1) i;refine Eq.trans h ?_;rw [bytesRow_at s _ i hi];rfl
 .simp
 .exact((Below.refl _ w).drew).alloc (Nat.le_refl _) _
def tl (s:ByteArray) (a:Nat):ByteArray:=s.extract a s.size
theorem xu (a:Nat):(tl s a).size=s.size - a:=by unfold tl;rw [ByteArray.size_extract];omega
theorem yU (a i j:Nat) (h:a+j<=s.size):(tl s a).extract i j=s.extract (a+i) (a+j):=by
 apply ByteArray.ext
 apply Array.ext'
 unfold tl;rw [Lib.extract_data,Lib.extract_data,Lib.extract_data];rw [List.drop_take,List.drop_drop,List.take_take];congr 1
 omega
def Ry (s:ByteArray) (a:Nat):Prop:=4<=(tl s a).size/\0<=AY (tl s a)/\iK (ig (Dk (tl s a)))=(tl s a).extract 0 4
instance (s:ByteArray) (a:Nat):Decidable (Ry s a):=by unfold Ry;exact inferInstance
def xP (s:ByteArray) (a:Nat):ByteArray:=if Ry s a then Dk (tl s a) else ByteArray.empty
def wN (s:ByteArray) (a:Nat):Int:=if Ry s a then a+4+AY (tl s a) else -1
theorem Ev (a:Nat) (h:a+4<=s.size):iT (tl s a)=s.extract (a+4) (a+min (s.size - a) 1006):=by
 unfold iT;rw [xu,yU _ _ _ _ Aaa]
theorem Hy (a g cap:Nat) (w:World) (hs:s.size<=60000) (ha:a<=s.size) (h:s.size < a+4):Calls prog 144 #[.slice (some ⟨g,0,none⟩) s.size cap,.int .i64 a] w (fF w (.tuple #[.string ByteArray.empty,.int .i64 (-1)])):=by
 have h1:(s.size:Int)<=(a:Int)+1006:=Aaa
 have h2:(s.size:Int) - (a:Int) < 4:=Aaa
 clear h;go_in
 go_wp2_with fail;exact bodyPost_ret (v:= .tuple #[.string ⟨#[]⟩,.int .i64 (-1)]) Acv rfl ⟨rfl,Below.refl _ _⟩
theorem BP (hs:s.size<=60000) (a g cap:Nat) (hcap:s.size<=cap) (w:World) (h4:s.size=a+4) (hc:BytesAt w g s) (_hg:g < w.heap.size) (hH:Handle w) (hz:AY (tl s a) < 0):Calls prog 144 #[.slice (some ⟨g,0,none⟩) s.size cap,.int .i64 a] w (fF w (.tuple #[.string ByteArray.empty,.int .i64 (-1)])):=by
 have hr:(convert 22 9 (.slice (some ⟨g,0,none⟩) 0 0)).run prog w= .ok (.string (iT (tl s a))) w:=by
  rw [Ev s a Aaa];have h:=uo hc 0 0 0 Aaa;rw [h];congr 2
  rw [show min (s.size - a) 1006=4 by omega];apply ByteArray.ext
  apply Array.ext'
  rw [Lib.extract_data,Lib.extract_data];simp
 have ha:a<=59996:=Aaa
 have h1:(a:Int)+4<=(a:Int)+1006:=Aaa
 have h2:¬((a:Int)+4 - (a:Int) < 4):=Aaa
 have hcap2:(a:Int)+4<=(cap:Int):=Aaa
 have hmn:min (4:Int) 1006=4:=rfl;have hmo:min ((a:Int)+4) ((a:Int)+1006)=(a:Int)+4:=Int.min_eq_left Aaa;open ame in exact adI
theorem DU (hs:s.size<=60000) (a g cap:Nat) (hcap:s.size<=cap) (w:World) (h5:a+5<=s.size) (h6:s.size<=a+1006) (hc:BytesAt w g s) (_hg:g < w.heap.size) (hH:Handle w) (hz:AY (tl s a) < 0):Calls prog 144 #[.slice (some ⟨g,0,none⟩) s.size cap,.int .i64 a] w (fF w (.tuple #[.string ByteArray.empty,.int .i64 (-1)])):=by
 open aoA in exact aiU
theorem DR (hs:s.size<=60000) (a g cap:Nat) (hcap:s.size<=cap) (w:World) (h5:a+5<=s.size) (h6:s.size<=a+1006) (hc:BytesAt w g s) (hg:g < w.heap.size) (hH:Handle w) (hz:0<=AY (tl s a)) (hq:¬iK (ig (Dk (tl s a)))=(tl s a).extract 0 4):Calls prog 144 #[.slice (some ⟨g,0,none⟩) s.size cap,.int .i64 a] w (fF w (.tuple #[.string ByteArray.empty,.int .i64 (-1)])):=by
 open aoz in exact aiU
theorem BU (hs:s.size<=60000) (a g cap:Nat) (hcap:s.size<=cap) (w:World) (h5:a+5<=s.size) (h6:s.size<=a+1006) (hc:BytesAt w g s) (hg:g < w.heap.size) (hH:Handle w) (hz:0<=AY (tl s a)) (hq:iK (ig (Dk (tl s a)))=(tl s a).extract 0 4):Calls prog 144 #[.slice (some ⟨g,0,none⟩) s.size cap,.int .i64 a] w (fF w (.tuple #[.string (Dk (tl s a)),.int .i64 (a+4+AY (tl s a))])):=by
 open aoy in exact aiU
theorem BR (hs:s.size<=60000) (a g cap:Nat) (hcap:s.size<=cap) (w:World) (h7:a+1006 < s.size) (hc:BytesAt w g s) (_hg:g < w.heap.size) (hH:Handle w) (hz:AY (tl s a) < 0):Calls prog 144 #[.slice (some ⟨g,0,none⟩) s.size cap,.int .i64 a] w (fF w (.tuple #[.string ByteArray.empty,.int .i64 (-1)])):=by
 open aoH in exact aiV
theorem BQ (hs:s.size<=60000) (a g cap:Nat) (hcap:s.size<=cap) (w:World) (h7:a+1006 < s.size) (hc:BytesAt w g s) (hg:g < w.heap.size) (hH:Handle w) (hz:0<=AY (tl s a)) (hq:¬iK (ig (Dk (tl s a)))=(tl s a).extract 0 4):Calls prog 144 #[.slice (some ⟨g,0,none⟩) s.size cap,.int .i64 a] w (fF w (.tuple #[.string ByteArray.empty,.int .i64 (-1)])):=by
 open aoG in exact aiV
theorem zI (hs:s.size<=60000) (a g cap:Nat) (hcap:s.size<=cap) (w:World) (h7:a+1006 < s.size) (hc:BytesAt w g s) (hg:g < w.heap.size) (hH:Handle w) (hz:0<=AY (tl s a)) (hq:iK (ig (Dk (tl s a)))=(tl s a).extract 0 4):Calls prog 144 #[.slice (some ⟨g,0,none⟩) s.size cap,.int .i64 a] w (fF w (.tuple #[.string (Dk (tl s a)),.int .i64 (a+4+AY (tl s a))])):=by
 open aoF in exact aiV
theorem Rb (h:s.size=4):AY s < 0:=by
 have hsz:=tK s
 have e1:iD (iT s) 0=none:=by
  cases hG:iD (iT s) 0 with
  |none=>rfl
  |some p=>
   obtain⟨n,c⟩:=p
   obtain⟨k,hk0,hk,hc,_⟩:=F8 hG
   omega
 unfold AY iW;rw [e1];simp[textOf,Ra]
theorem ad6 (hs:s.size<=60000) (a:Nat) (ha:a<=s.size) (g cap:Nat) (hcap:s.size<=cap) (w:World) (hc:BytesAt w g s) (hg:g < w.heap.size) (hH:Handle w):Calls prog 144 #[.slice (some ⟨g,0,none⟩) s.size cap,.int .i64 a] w (fF w (.tuple #[.string (xP s a),.int .i64 (wN s a)])):=by
 have ht:=xu s a;unfold xP wN;by_cases h4:4<=(tl s a).size
 case' neg=>
  have hn:¬Ry s a:=λh=>h4 h.1
  rw [if_neg hn,if_neg hn]
  exact Hy s a g cap w hs ha Aaa
 by_cases h5:(tl s a).size=4
 case' pos=>
  have hz:=Rb (tl s a) h5
  have hn:¬Ry s a:=λh=>absurd h.2.1 Aaa
  rw [if_neg hn,if_neg hn]
  exact BP s hs a g cap hcap w Aaa hc hg hH hz
 by_cases hz:0<=AY (tl s a)
 case' neg=>
  have hn:¬Ry s a:=λh=>hz h.2.1
  rw [if_neg hn,if_neg hn]
  by_cases h6:s.size<=a+1006
  .exact DU s hs a g cap hcap w Aaa h6 hc hg hH Aaa
  .exact BR s hs a g cap hcap w Aaa hc hg hH Aaa
 by_cases hq:iK (ig (Dk (tl s a)))=(tl s a).extract 0 4
 case' neg=>
  have hn:¬Ry s a:=λh=>hq h.2.2
  rw [if_neg hn,if_neg hn]
  by_cases h6:s.size<=a+1006
  .exact DR s hs a g cap hcap w Aaa h6 hc hg hH hz hq
  .exact BQ s hs a g cap hcap w Aaa hc hg hH hz hq
 have hy:Ry s a:=⟨h4,hz,hq⟩;rw [if_pos hy,if_pos hy];by_cases h6:s.size<=a+1006
 .exact BU s hs a g cap hcap w Aaa h6 hc hg hH hz hq
 .exact zI s hs a g cap hcap w Aaa hc hg hH hz hq
theorem Vo (a:Nat) (h:a+4<=s.size):(AY (tl s a) < 0/\iW s ((a:Int)+4) < 0)\/(0<=AY (tl s a)/\iW s ((a:Int)+4)=a+4+AY (tl s a)/\jJ s ((a:Int)+4)=Dk (tl s a)):=by
 have hR:(iT (tl s a)).data.toList=(s.data.toList.drop (a+4)).take (min (s.size - a) 1006 - 4):=by
  rw [Ev s a h,Lib.extract_data];congr 1
  omega
 have hRs:(iT (tl s a)).size=min (s.size - a) 1006 - 4:=by rw [tK,xu]
 unfold AY Dk;generalize iT (tl s a)=R at *;have hl:=aH s;have hpl:(a:Int)+4=((s.data.toList.take (a+4)).length:Int):=by rw [List.length_take,hl];omega
 by_cases hz:0<=iW R 0
 .right
  obtain⟨_,_,hle,hsz,hput⟩:=iE hz;have hq:=jC hsz
  have hzl:(jy (jJ R 0)).size=(iW R 0).toNat:=by
   have:=congrArg List.length hput;rw [aH,List.length_drop,List.length_take,aH] at this;have e0:(0:Int).toNat=0:=rfl;omega
  rw [hR] at hput;simp only[Int.toNat_zero,List.drop_zero] at hput;rw [List.take_take,Nat.min_eq_left Aaa] at hput
  have hs:s.data.toList=s.data.toList.take (a+4)++(Mth.put (jJ R 0).size++((jJ R 0).data.toList++(s.data.toList.drop (a+4)).drop (iW R 0).toNat)):=by
   rw [<-List.append_assoc (Mth.put _),<-hq,hput,List.take_append_drop,List.take_append_drop]
  obtain⟨h1,h2⟩:=Cv hs hsz ((a:Int)+4) hpl;refine⟨hz,?_,h1⟩;rw [h2,hzl];omega
 .left
  refine⟨Aaa,?_⟩;rcases Int.lt_or_le (iW s ((a:Int)+4)) 0 with h0|h0
  .exact h0
  .exfalso
   obtain⟨_,g2,hle,hsz,hput⟩:=iE h0;have hq:=jC hsz;have hp2:=acF (jJ s ((a:Int)+4));have ea:((a:Int)+4).toNat=a+4:=Aaa
   rw [ea,List.drop_take] at hput
   have hzl:(jy (jJ s ((a:Int)+4))).size=(iW s ((a:Int)+4)).toNat - (a+4):=by
    have:=congrArg List.length hput;rw [aH,List.length_take,List.length_drop,aH] at this;omega
   have hs:R.data.toList=[]++(Mth.put (jJ s ((a:Int)+4)).size++((jJ s ((a:Int)+4)).data.toList++R.data.toList.drop ((iW s ((a:Int)+4)).toNat - (a+4)))):=by
    rw [<-List.append_assoc (Mth.put _),<-hq,hput,List.nil_append];conv=>lhs;rw [<-List.take_append_drop ((iW s ((a:Int)+4)).toNat - (a+4)) R.data.toList]
    congr 1
    rw [hR,List.take_take,Nat.min_eq_left Aaa]
   obtain⟨_,h2⟩:=Cv hs hsz 0 rfl;rw [h2] at hz;omega
def yT (s:ByteArray) (a:Nat):Bool:=decide (Ry s a)&&jM (xP s a)
theorem Q7 (a:Nat) (h:a+4 < s.size):yT s a=(decide (0<=iW s ((a:Int)+4))&&jM (jJ s ((a:Int)+4))&&decide (s.extract a (a+4)=iK (ig (jJ s ((a:Int)+4))))):=by
 unfold yT xP;have hc:=yU s a 0 4 Aaa;have hs:=xu s a;rcases Vo s a Aaa with⟨h1,h2⟩|⟨h1,h2,h3⟩
 .have hn:¬Ry s a:=λh=>absurd h.2.1 Aaa
  rw [decide_eq_false hn,decide_eq_false (show¬0<=iW s ((a:Int)+4) by omega)];rfl
 .rw [decide_eq_true (show 0<=iW s ((a:Int)+4) by omega),h3];by_cases hq:iK (ig (Dk (tl s a)))=s.extract a (a+4)
  .have hy:Ry s a:=⟨Aaa,h1,by rw [hc];exact hq⟩;rw [decide_eq_true hy,if_pos hy,decide_eq_true hq.symm];simp
  .have hn:¬Ry s a:=λh=>hq (by have:=h.2.2;rw [hc] at this;exact this)
   rw [decide_eq_false hn,decide_eq_false (λh=>hq h.symm)];simp
theorem nL {s:ByteArray} (h:yT s a=true):a+4 < s.size/\xP s a=jJ s ((a:Int)+4)/\wN s a=iW s ((a:Int)+4)/\(a:Int)+4 < wN s a/\wN s a<=s.size/\jM (xP s a)=true/\(xP s a).size<=1000:=by
 unfold yT at h;simp only[Bool.and_eq_true,decide_eq_true_iff] at h;obtain⟨hf,hg⟩:=h;have hs:=xu s a;have h4:=hf.1;have hne:(tl s a).size≠4:=λhe=>by have:=Rb _ he;have:=hf.2.1;omega
 have hT:xP s a=Dk (tl s a):=if_pos hf;have hE:wN s a=a+4+AY (tl s a):=if_pos hf;rcases Vo s a Aaa with⟨h1,_⟩|⟨h1,h2,h3⟩
 .have:=hf.2.1;omega
 .obtain⟨_,_,k1,k2,k3⟩:=iE (s:=s) (i:=(a:Int)+4) Aaa;have hgs:0 < (xP s a).size:=by unfold jM at hg;simp only[Bool.and_eq_true,decide_eq_true_iff] at hg;exact hg.1.1.1
  have hpos:0 < AY (tl s a):=by
   have hq:=jC k2;have:=congrArg List.length (k3.symm.trans hq);rw [List.length_append,List.length_drop,List.length_take,aH,aH] at this;rw [h3] at this;rw [hT] at hgs;omega
  exact⟨Aaa,by rw [hT,h3],by rw [hE,h2],Aaa,Aaa,hg,by rw [hT,<-h3];exact k2⟩
def lQ (s:ByteArray):Nat->Nat->List fP×Nat
 |0,a=>([],a)
 |f+1,a=>if yT s a=true then(opC (xP s a)::(lQ s f (wN s a).toNat).1,(lQ s f (wN s a).toNat).2) else([],a)
def dW (s:ByteArray):List fP×Nat:=if s.size<=60000 then lQ s (s.size+1) 0 else([],0)
def vU (s:ByteArray) (a:Nat) (L:List fP):Prop:=L.length<=a/\a<=s.size/\∃f,s.size < a+f/\dW s=(L++(lQ s f a).1,(lQ s f a).2)
theorem wG (h:s.size<=60000):vU s 0 []:=⟨Nat.le_refl _,Nat.zero_le _,s.size+1,Aaa,by unfold dW;rw [if_pos h];simp⟩
theorem yQ {s:ByteArray} (h:vU s a L) (hs:yT s a=true):vU s (wN s a).toNat (L++[opC (xP s a)]):=by
 obtain⟨h1,h2,f,h3,h4⟩:=h;obtain⟨p1,_,_,p2,p3,_⟩:=nL hs;refine⟨by rw [List.length_append];simp;omega,Aaa,?_⟩;cases f with
 |zero=>omega
 |succ f=>
  refine⟨f,Aaa,?_⟩
  rw [h4]
  simp only[lQ,if_pos hs]
  rw [List.append_assoc]
  rfl
theorem wZ {s:ByteArray} (h:vU s a L) (hs:yT s a=false):dW s=(L,a):=by
 obtain⟨_,h2,f,h3,h4⟩:=h;cases f with
 |zero=>omega
 |succ f=>
  rw [h4]
  simp only[lQ,hs,Bool.false_eq_true,if_false]
  rw [List.append_nil]
theorem AU {s:ByteArray} (h:¬a+4 < s.size):yT s a=false:=by
 cases hs:yT s a with
 |false=>rfl
 |true=>exact absurd (nL hs).1 h
namespace Mth
def fJ (n:Nd) (L:List fP):Nd:=L.foldl (λm o=>(O3 m o).1) n
theorem Cr {k:Nat} (hk:k < L.length):fJ n (L.take (k+1))=(O3 (fJ n (L.take k)) L[k]).1:=by
 unfold fJ;rw [List.take_succ_eq_append_getElem hk,List.foldl_append];rfl
theorem acD (h:dY n=false) (L:List fP):fJ n L=n:=by
 induction L with
 |nil=>rfl
 |cons o L ih=>
  have e:fJ n (o::L)=fJ (O3 n o).1 L:=rfl
  rw [e,Em h]
  exact ih
theorem VK (h:dY n=true) (L:List fP):dY (fJ n L)=true:=by
 induction L generalizing n with
 |nil=>exact h
 |cons o L ih=>exact ih (VG h)
theorem Aj (h:eY n 1048576) (L:List fP):eY (fJ n L) 1048576:=by
 induction L generalizing n with
 |nil=>exact h
 |cons o L ih=>exact ih (aa5 h)
theorem ayy {s:ByteArray} (h:yT s a=true):bq (opC (xP s a))=true:=by
 have hg:=(nL h).2.2.2.2.2.1;unfold jM at hg;simp only[Bool.and_eq_true] at hg;exact hg.2
theorem Kj:∀(f a:Nat),a<=s.size->(lQ s f a).1.length+a<=s.size
 |0,a,h=>by simpa [lQ] using h
 |f+1,a,h=>by
  unfold lQ
  split
  .rename_i hs
   obtain⟨p1,_,_,p2,p3,_⟩:=nL hs;have:=Kj f (wN s a).toNat Aaa;rw [List.length_cons];omega
  .simpa using h
theorem Qx:∀(f a:Nat),∀o∈(lQ s f a).1,bq o=true
 |0,_,o,h=>by simp[lQ] at h
 |f+1,a,o,h=>by
  unfold lQ at h
  split at h
  .rename_i hs
   rcases List.mem_cons.1 h with rfl|h
   .exact ayy hs
   .exact Qx f _ o h
  .simp at h
theorem TW {s:ByteArray} (h:s.toList=[]):s.size<=1048576:=by
 have e:s=ByteArray.empty:=toList_inj (h.trans (by decide+kernel));rw [e];decide
theorem Eu (h:bq o=true):o.k.size<=1048576/\o.m.k.size<=1048576:=by
 have zm:mh o.m=true->o.m.k.size<=1048576:=λh=>by
  unfold mh at h
  exact TW (of_decide_eq_true h).2.2.2.2.2.1
 unfold bq at h;split at h
 .simp only[Bool.and_eq_true] at h;exact⟨qJ h.1.1.1,zm h.2⟩
 split at h
 .simp only[Bool.and_eq_true] at h;exact⟨qJ h.1.1.1,zm h.2⟩
 split at h
 .exact ahT
 split at h
 .exact ahT
 split at h
 .simp only[Bool.and_eq_true] at h;refine⟨TW (of_decide_eq_true h.1.1.1),?_⟩;have hm:=h.2;unfold bY at hm;simp only[Bool.and_eq_true] at hm;have h2:=hm.2;split at h2
  .simp only[Bool.and_eq_true] at h2;exact qJ h2.1.1.1
  split at h2
  .simp only[Bool.and_eq_true] at h2;exact qJ h2.1.1.1
  split at h2
  .simp only[Bool.and_eq_true,decide_eq_true_eq] at h2;omega
  .cases h2
 .cases h
theorem Ao:∀o∈(dW s).1,bq o=true:=by
 unfold dW;split
 .exact Qx s _ _
 .intro o h;simp at h
theorem Cu:(dW s).1.length<=60000:=by
 unfold dW;split
 .rename_i h
  have:=Kj s (s.size+1) 0 (Nat.zero_le _);omega
 .simp
end Mth
theorem Ns (h:mh m=true):m=mg0:=by
 obtain⟨K,F,T,I,L,k,N⟩:=m;unfold mh at h;simp only[decide_eq_true_iff] at h;obtain⟨rfl,rfl,rfl,rfl,rfl,hk,rfl⟩:=h
 have:k=ByteArray.empty:=by
  rw [ByteArray.toList_eq] at hk;exact ByteArray.ext (Array.ext' hk)
 rw [this];rfl
theorem TY {k:ByteArray} (h:k.toList=[]):k.size<=10:=by
 rw [ByteArray.toList_eq] at h;have:=aH k;rw [h] at this;simp at this;omega
theorem acz (h:bq o=true):(0<=o.K/\o.K<=6)/\(0<=o.no/\o.no<=1000000000)/\o.k.size<=10/\(0<=o.n/\o.n<=1000000000)/\(o.m=mg0\/bY o.m=true):=by
 have hK:=J5 h;unfold bq at h;split at h
 .exact aht
 .split at h
  .exact aht
  .split at h
   .simp only[Bool.and_eq_true,fV,decide_eq_true_iff] at h;exact⟨hK,Aaa,TY h.1.1.1,Aaa,.inl (Ns h.2)⟩
   .split at h
    .simp only[Bool.and_eq_true,decide_eq_true_iff] at h;exact⟨hK,Aaa,TY h.1.1.1,Aaa,.inl (Ns h.2)⟩
    .split at h
     .simp only[Bool.and_eq_true,decide_eq_true_iff] at h;exact⟨hK,Aaa,TY h.1.1.1,Aaa,.inr h.2⟩
     .cases h
theorem XW (h:m=mg0\/bY m=true):(fA m).size<=1000/\lM (fA m)=m/\(decide ((fA m).size=0)||jF (fA m))=true:=by
 rcases h with rfl|h
 .rw [tu Mi];exact⟨Aae,(Cb rfl).1,rfl⟩
 .rw [qO h];exact⟨Iw h,abl h,by rw [(OP h).2];simp⟩
theorem Qt {t:ByteArray} (h:t.size<=10):(jy t).size<=16:=by
 unfold jy;rw [if_pos Aaa];unfold nH;have:=put_length t.size;exact Vm
theorem Mj (h:m=mg0\/bY m=true):(fA m).size<=60:=by
 rcases h with rfl|h
 .rw [tu Mi];decide
 .rw [qO h];obtain⟨_,_,_,_,_,_,hk⟩:=TR h;unfold jA;have s1:=fu m.F;have s2:=fu m.T;have s3:=fu m.I;have s4:=fu m.L;have s6:=fu m.N;have s5:=Qt hk;exact JG
theorem Iz (h:bq o=true):(fq o).size<=1000:=by
 obtain⟨_,_,hk,_,hm⟩:=acz h;have s0:=Mj hm;have s1:=fu o.no;have s2:=fu o.n;have s3:=Qt hk
 have s4:(jy (fA o.m)).size<=70:=by
  unfold jy;rw [if_pos Aaa];unfold nH;have:=put_length (fA o.m).size;exact Vm
 unfold fq;exact JG
theorem Vp (h:bq o=true):opC (fq o)=o/\jM (fq o)=true:=by
 obtain⟨hK,hno,hk,hn,hm⟩:=acz h;obtain⟨hB1,hB2,hB3⟩:=XW hm;obtain⟨K,no,k,n,m⟩:=o;dsimp only at *
 have hs:(fq ⟨K,no,k,n,m⟩).data.toList=[UInt8.ofNat K.toNat]++(Mth.put no.toNat++((Mth.put k.size++k.data.toList)++(Mth.put n.toNat++(Mth.put (fA m).size++(fA m).data.toList)))):=by
  unfold fq;simp only[ByteArray.data_append,Array.toList_append];rw [qP hno.1 Aaa,qP hn.1 Aaa,jC Aaa,jC hB1];simp[kb]
 have h0:0 < (fq ⟨K,no,k,n,m⟩).size:=wC _;generalize hB:fq ⟨K,no,k,n,m⟩=B at *;obtain⟨n1,e1⟩:=yK (pre:=[UInt8.ofNat K.toNat]) (n:=no.toNat) hs Aaa 1 rfl;obtain⟨n2,e2⟩:=Cv (pre:=[UInt8.ofNat K.toNat]++Mth.put no.toNat) (t:=k) (y:=Mth.put n.toNat++(Mth.put (fA m).size++(fA m).data.toList)) (s:=B) Adx Aaa (iV B 1) (by rw [e1,List.length_append]);have hpk:(jy k).size=(Mth.put k.size++k.data.toList).length:=by rw [<-jC Aaa,aH]
 obtain⟨n3,e3⟩:=yK (pre:=[UInt8.ofNat K.toNat]++Mth.put no.toNat++(Mth.put k.size++k.data.toList)) (n:=n.toNat) (y:=Mth.put (fA m).size++(fA m).data.toList) (s:=B) Adx Aaa (iW B (iV B 1)) (by rw [e2,hpk];simp only[List.length_append]);obtain⟨n4,e4⟩:=Cv (pre:=[UInt8.ofNat K.toNat]++Mth.put no.toNat++(Mth.put k.size++k.data.toList)++Mth.put n.toNat) (t:=fA m) (y:=[]) (s:=B) Aec hB1 (iV B (iW B (iV B 1))) (by rw [e3];simp only[List.length_append]);have hOB:Ah B=fA m:=n4
 have hc:opC B=⟨K,no,k,n,m⟩:=by
  unfold opC;rw [hOB,n1,n2,n3,hs,hB2];simp only[List.cons_append,List.nil_append,List.headD_cons,fP.mk.injEq];have:=toNat_byte K.toNat Aaa;exact⟨Aaa,Aaa,trivial,Aaa,trivial⟩
 have hpb:(jy (fA m)).size=(Mth.put (fA m).size++(fA m).data.toList).length:=by rw [<-jC hB1,aH]
 have hE:J4 B=B.size:=by
  show iW B (iV B (iW B (iV B 1)))=_
  rw [e4,<-aH B,hs,hpb];simp only[List.length_append];omega
 refine⟨hc,?_⟩;unfold jM;rw [decide_eq_true h0,decide_eq_true hE,hc,h,show pW B=true by unfold pW;rw [hOB];exact hB3];rfl
theorem ajm {u:ByteArray} (h:jM u=true):bq (opC u)=true/\fq (opC u)=u:=by
 have h0:0 < u.size:=by unfold jM at h;simp only[Bool.and_eq_true,decide_eq_true_iff] at h;exact h.1.1.1
 have ho:bq (opC u)=true:=by unfold jM at h;simp only[Bool.and_eq_true] at h;exact h.2
 have hs:=h;rw [JO h0] at hs;simp only[Bool.and_eq_true,decide_eq_true_iff] at hs;rw [qz ho] at hs;exact⟨ho,hs.2⟩
theorem acW {s:ByteArray} (h:yT s a=true):bq (opC (xP s a))=true/\s.data.toList=s.data.toList.take a++((iZ (opC (xP s a))).data.toList++s.data.toList.drop (wN s a).toNat)/\(wN s a).toNat=a+(iZ (opC (xP s a))).size:=by
 obtain⟨p1,p2,p3,p4,p5,p6,p7⟩:=nL h;obtain⟨g1,g2⟩:=ajm p6;have hf:Ry s a:=by unfold yT at h;simp only[Bool.and_eq_true,decide_eq_true_iff] at h;exact h.1
 have hw:=hf.2.2;rw [yU s a 0 4 Aaa,show Dk (tl s a)=xP s a from(if_pos hf).symm] at hw;obtain⟨_,_,k1,k2,k3⟩:=iE (s:=s) (i:=(a:Int)+4) Aaa;rw [<-p2,<-p3,show((a:Int)+4).toNat=a+4 by omega] at k3;have hl:=aH s
 have hen:(iZ (opC (xP s a))).data.toList=(s.data.toList.drop a).take ((wN s a).toNat - a):=by
  unfold iZ;rw [g2];unfold frameT;rw [ByteArray.data_append,Array.toList_append,hw,k3,Lib.extract_data,List.drop_take];have e1:(wN s a).toNat - a=4+((wN s a).toNat - (a+4)):=Aaa
  rw [e1,List.take_add,List.drop_drop,show a+4 - (a+0)=4 by omega,show a+0=a by omega]
 refine⟨g1,?_,?_⟩
 .have e4:s.data.toList.drop (wN s a).toNat=(s.data.toList.drop a).drop ((wN s a).toNat - a):=by rw [List.drop_drop];congr 1;omega
  rw [hen,e4,List.take_append_drop,List.take_append_drop]
 .rw [<-aH,hen,List.length_take,List.length_drop];omega
theorem aa7 {s:ByteArray} {p r:List UInt8} (hs:s.data.toList=p++((iZ o).data.toList++r)) (h:bq o=true):yT s p.length=true/\(wN s p.length).toNat=p.length+(iZ o).size/\opC (xP s p.length)=o:=by
 have hz:=Iz h;have hfl:=SY hz;have hw:(iK (ig (fq o))).data.toList.length=4:=by rw [aH];exact uW _
 have hes:(iZ o).size=4+(jy (fq o)).size:=by unfold iZ frameT;rw [ByteArray.size_append,uW]
 have hpos:=wC o;have hpt:(jy (fq o)).size=(Mth.put (fq o).size).length+(fq o).size:=by rw [<-aH,jC hz,List.length_append,aH]
 have hs2:s.data.toList=(p++(iK (ig (fq o))).data.toList)++(Mth.put (fq o).size++((fq o).data.toList++r)):=by
  rw [hs];unfold iZ;rw [hfl];simp only[List.append_assoc]
 have hl:=congrArg List.length hs;simp only[List.length_append,aH] at hl;obtain⟨r1,r2⟩:=Cv hs2 hz ((p.length:Int)+4) (by rw [List.length_append,hw];omega)
 have hst:yT s p.length=true:=by
  rw [Q7 s p.length Aaa,r1,r2,(Vp h).2,decide_eq_true Aaa]
  have he:s.extract p.length (p.length+4)=iK (ig (fq o)):=by
   apply ByteArray.ext
   apply Array.ext'
   rw [Lib.extract_data,hs2,List.append_assoc,List.drop_left,show p.length+4 - p.length=(iK (ig (fq o))).data.toList.length by rw [hw];omega,List.take_left]
  rw [decide_eq_true he];rfl
 obtain⟨_,p2,p3,_⟩:=nL hst;refine⟨hst,?_,?_⟩
 .rw [p3,r2,List.length_append,hw,hes];omega
 .rw [p2,r1];exact(Vp h).1
def oU (L:List fP):List UInt8:=(L.map λo=>(iZ o).data.toList).flatten
theorem JJ (L:List fP) (o:fP):oU (L++[o])=oU L++(iZ o).data.toList:=by simp[oU]
theorem WU (M:List fP) (o:fP) (L:List fP):oU (M++o::L)=oU M++((iZ o).data.toList++oU L):=by simp[oU]
theorem Yr {s:ByteArray} (L:List fP):∀(M:List fP) (r:List UInt8),s.data.toList=oU (M++L)++r->(∀o∈L,bq o=true)->vU s (oU M).length M->vU s (oU (M++L)).length (M++L):=by
 induction L with
 |nil=>intro M r _ _ h;rw [List.append_nil];exact h
 |cons o L ih=>
  intro M r hs hok h
  have hs2:s.data.toList=oU M++((iZ o).data.toList++(oU L++r)):=by rw [hs,WU];simp only[List.append_assoc]
  obtain⟨h1,h2,h3⟩:=aa7 hs2 (hok o Aac)
  have h4:=yQ h h1
  rw [h2,h3,show(oU M).length+(iZ o).size=(oU (M++[o])).length by rw [JJ,List.length_append,aH]] at h4
  have h5:=ih (M++[o]) r (by rw [hs];simp[List.append_assoc]) (λx hx=>hok x Aax) h4
  rw [List.append_assoc] at h5
  exact h5
theorem acH {s:ByteArray} {x:List UInt8} (hs:s.data.toList=oU L++x) (hok:∀o∈L,bq o=true) (hz:s.size<=60000) (hst:yT s (oU L).length=false):dW s=(L,(oU L).length):=by
 have h:=Yr (s:=s) L [] x (by simpa using hs) hok (by simpa [oU] using wG s hz);rw [List.nil_append] at h;exact wZ h hst
theorem Yd {s:ByteArray}:∀(f a:Nat) (M:List fP),a<=s.size->s.data.toList.take a=oU M->(∀o∈M,bq o=true)->
 (lQ s f a).2<=s.size/\s.data.toList.take (lQ s f a).2=oU (M++(lQ s f a).1)/\∀o∈M++(lQ s f a).1,bq o=true:=by
 intro f;induction f with
 |zero=>intro a M h1 h2 h3;simp only[lQ,List.append_nil];exact⟨h1,h2,h3⟩
 |succ f ih=>
  intro a M h1 h2 h3
  by_cases hst:yT s a=true
  .obtain⟨g1,g2,g3⟩:=acW hst;obtain⟨_,_,_,p4,p5,_⟩:=nL hst;simp only[lQ,if_pos hst];have hl:=aH s
   have ht:s.data.toList.take (wN s a).toNat=oU (M++[opC (xP s a)]):=by
    rw [JJ,<-h2,g2,List.take_append,List.take_append];have hla:(s.data.toList.take a).length=a:=Abk
    rw [<-g2,hla];rw [List.take_of_length_le (show(s.data.toList.take a).length<=(wN s a).toNat by omega),List.take_of_length_le (show(iZ (opC (xP s a))).data.toList.length<=(wN s a).toNat - a by rw [aH];omega),show(wN s a).toNat - a - (iZ (opC (xP s a))).data.toList.length=0 by rw [aH];omega];simp
   have h:=ih (wN s a).toNat (M++[opC (xP s a)]) Aaa ht (λo ho=>by
    rcases List.mem_append.1 ho with ho|ho
    .exact h3 o ho
    .rw [List.mem_singleton.1 ho];exact g1)
   simp only[List.append_assoc,List.singleton_append] at h;exact h
  .simp only[lQ,if_neg hst,List.append_nil];exact⟨h1,h2,h3⟩
theorem XZ (hz:s.size<=60000):(dW s).2<=s.size/\s.data.toList.take (dW s).2=oU (dW s).1/\∀o∈(dW s).1,bq o=true:=by
 unfold dW;rw [if_pos hz];have h:=Yd (s:=s) (s.size+1) 0 [] (Nat.zero_le _) (by simp[oU]) Aac;simpa using h
theorem aj2 {s:ByteArray} (hz:s.size<=60000):(dW (s.extract 0 (dW s).2)).1=(dW s).1/\(dW s).2<=s.size:=by
 obtain⟨h1,h2,h3⟩:=XZ s hz;refine⟨?_,h1⟩
 have e:(s.extract 0 (dW s).2).data.toList=oU (dW s).1++[]:=by
  rw [Lib.extract_data,List.append_nil,<-h2];simp
 have hs:(s.extract 0 (dW s).2).size=(oU (dW s).1).length:=by
  rw [<-aH,e,List.append_nil]
 have hl:(oU (dW s).1).length<=s.size:=by
  rw [<-h2,List.length_take,aH];omega
 rw [acH e h3 Aaa (AU Aaa)]
theorem aj3:(dW ⟨#[]⟩).1=[]:=by
 unfold dW;rw [if_pos Aae];unfold lQ;rw [AU Aae];rfl
end Go.Proofs.YtacgbldlonoaaaaGreatDoor
