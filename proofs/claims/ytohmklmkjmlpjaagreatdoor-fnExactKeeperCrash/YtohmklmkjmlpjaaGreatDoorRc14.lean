/- Parts. -/
import Derived.Test.YtohmklmkjmlpjaaGreatDoorRc13
namespace Go.Proofs.YtohmklmkjmlpjaaGreatDoor
open Go.Proofs.Tryz
set_option maxHeartbeats 2000000
set_option maxRecDepth 100000
open Go.RowKit
open Mth
variable (s:ByteArray) {w:World} {g:Nat}
def BytesAt (w:World) (g:Nat) (s:ByteArray):Prop:=∀i (hi:i < s.size),w.cell? ⟨g,i,none⟩=some (.int .u8 (s[i].toNat:Int))
theorem BytesAt.below {w':World} {s:ByteArray} (h:BytesAt w g s) (hg:g < w.heap.size) (hb:aI w w'):BytesAt w' g s:=λi hi=>by rw [(sG hb).1 g i hg];exact h i hi
theorem ae4 (b off i:Nat):(⟨b,off,none⟩:Addr).add i=⟨b,off+i,none⟩:=by unfold Addr.add;split<;>simp_all
theorem uI {s:ByteArray} (h:BytesAt w g s) (lo n cap:Nat) (hn:lo+n<=s.size):(convert 162 9 (.slice (some ⟨g,lo,none⟩) n cap)).run prog w= .ok (.string (s.extract lo (lo+n))) w:=by
 have hl:(s.extract lo (lo+n)).data.toList.length=n:=by rw [aW,aH6];omega
 have hc:=aH3 (P:=prog) w 162 9 5 ⟨g,lo,none⟩ cap (s.extract lo (lo+n)).data.toList underlying162 underlying5 underlying9 (λj hj=>by
  rw [ae4,h (lo+j) Aaa]
  congr 3
  have e:(s.extract lo (lo+n)).data.toList[j]=s.data.toList[lo+j]'(by rw [aW];omega):=by
   simp only[aHK];rw [List.getElem_take,List.getElem_drop]
  rw [e]
  rfl)
 rw [hl] at hc;exact hc
theorem TR (w:World):∃(cap:Nat) (w1:World),(convert 9 162 (.string s)).run prog w= .ok (.slice (some ⟨w.heap.size,0,none⟩) s.size cap) w1/\s.size<=cap/\BytesAt w1 w.heap.size s/\w.heap.size < w1.heap.size/\aI w w1:=by
 refine⟨_,_,run_bytes_of_string (P:=prog) w 9 162 5 s underlying9 underlying162 underlying5,?_,?_,?_,?_⟩
 .exact grownCap_ge w s.size 0 5
 .intro i hi;have h:=World.cell?_alloc_mark w.drew (bytesRow s (grownCap w s.size 0 5)) 5 ((bytesRow s (grownCap w s.size 0 5)).size,(bytesRow s (grownCap w s.size 0 5)).size+1) i;refine Eq.trans h ?_;rw [bytesRow_at s _ i hi];rfl
 .simp
 .exact((aGs _ w).drew).alloc (aGh _) _
def tl (s:ByteArray) (a:Nat):ByteArray:=s.extract a s.size
theorem xL (a:Nat):(tl s a).size=s.size - a:=by unfold tl;rw [aH6];omega
theorem CV (a i j:Nat) (h:a+j<=s.size):(tl s a).extract i j=s.extract (a+i) (a+j):=by
 apply aHE
 apply Array.ext'
 unfold tl;rw [aHK,aHK,aHK];rw [List.drop_take,List.drop_drop,aHP];congr 1
 omega
def Ub (s:ByteArray) (a:Nat):Prop:=4<=(tl s a).size/\0<=Bf (tl s a)/\mW (lq (Ei (tl s a)))=(tl s a).extract 0 4
instance (s:ByteArray) (a:Nat):Decidable (Ub s a):=by unfold Ub;exact inferInstance
def Ep (s:ByteArray) (a:Nat):ByteArray:=if Ub s a then Ei (tl s a) else ByteArray.empty
def Bv (s:ByteArray) (a:Nat):Int:=if Ub s a then a+4+Bf (tl s a) else -1
theorem Ev (a:Nat) (h:a+4<=s.size):iZ (tl s a)=s.extract (a+4) (a+min (s.size - a) 1006):=by
 unfold iZ;rw [xL,CV _ _ _ _ Aaa]
theorem Iu (a g cap:Nat) (w:World) (hs:s.size<=60000) (ha:a<=s.size) (h:s.size < a+4):Calls prog 165 #[.slice (some ⟨g,0,none⟩) s.size cap,.int .i64 a] w (dZ w (.tuple #[.string ByteArray.empty,.int .i64 (-1)])):=by
 have h1:(s.size:Int)<=(a:Int)+1006:=Aaa
 have h2:(s.size:Int) - (a:Int) < 4:=Aaa
 clear h;go_in
 go_wp2_with fail;exact aGn (v:= .tuple #[.string ⟨#[]⟩,.int .i64 (-1)]) Acm rfl ⟨rfl,aGs _ _⟩
theorem BX (hs:s.size<=60000) (a g cap:Nat) (hcap:s.size<=cap) (w:World) (h4:s.size=a+4) (hc:BytesAt w g s) (_hg:g < w.heap.size) (hH:Handle w) (hz:Bf (tl s a) < 0):Calls prog 165 #[.slice (some ⟨g,0,none⟩) s.size cap,.int .i64 a] w (dZ w (.tuple #[.string ByteArray.empty,.int .i64 (-1)])):=by
 have hr:(convert 162 9 (.slice (some ⟨g,0,none⟩) 0 0)).run prog w= .ok (.string (iZ (tl s a))) w:=by
  rw [Ev s a Aaa];have h:=uI hc 0 0 0 Aaa;rw [h];congr 2
  rw [show min (s.size - a) 1006=4 by omega];apply aHE
  apply Array.ext'
  rw [aHK,aHK];simp
 have ha:a<=59996:=Aaa
 have h1:(a:Int)+4<=(a:Int)+1006:=Aaa
 have h2:¬((a:Int)+4 - (a:Int) < 4):=Aaa
 have hcap2:(a:Int)+4<=(cap:Int):=Aaa
 have hmn:min (4:Int) 1006=4:=rfl;have hmo:min ((a:Int)+4) ((a:Int)+1006)=(a:Int)+4:=Int.min_eq_left Aaa;open aoy in exact aeO
theorem DY (hs:s.size<=60000) (a g cap:Nat) (hcap:s.size<=cap) (w:World) (h5:a+5<=s.size) (h6:s.size<=a+1006) (hc:BytesAt w g s) (_hg:g < w.heap.size) (hH:Handle w) (hz:Bf (tl s a) < 0):Calls prog 165 #[.slice (some ⟨g,0,none⟩) s.size cap,.int .i64 a] w (dZ w (.tuple #[.string ByteArray.empty,.int .i64 (-1)])):=by
 open aqr in exact akJ
theorem DX (hs:s.size<=60000) (a g cap:Nat) (hcap:s.size<=cap) (w:World) (h5:a+5<=s.size) (h6:s.size<=a+1006) (hc:BytesAt w g s) (hg:g < w.heap.size) (hH:Handle w) (hz:0<=Bf (tl s a)) (hq:¬mW (lq (Ei (tl s a)))=(tl s a).extract 0 4):Calls prog 165 #[.slice (some ⟨g,0,none⟩) s.size cap,.int .i64 a] w (dZ w (.tuple #[.string ByteArray.empty,.int .i64 (-1)])):=by
 open aqp in exact akJ
theorem Cc (hs:s.size<=60000) (a g cap:Nat) (hcap:s.size<=cap) (w:World) (h5:a+5<=s.size) (h6:s.size<=a+1006) (hc:BytesAt w g s) (hg:g < w.heap.size) (hH:Handle w) (hz:0<=Bf (tl s a)) (hq:mW (lq (Ei (tl s a)))=(tl s a).extract 0 4):Calls prog 165 #[.slice (some ⟨g,0,none⟩) s.size cap,.int .i64 a] w (dZ w (.tuple #[.string (Ei (tl s a)),.int .i64 (a+4+Bf (tl s a))])):=by
 open aqo in exact akJ
theorem Cb (hs:s.size<=60000) (a g cap:Nat) (hcap:s.size<=cap) (w:World) (h7:a+1006 < s.size) (hc:BytesAt w g s) (_hg:g < w.heap.size) (hH:Handle w) (hz:Bf (tl s a) < 0):Calls prog 165 #[.slice (some ⟨g,0,none⟩) s.size cap,.int .i64 a] w (dZ w (.tuple #[.string ByteArray.empty,.int .i64 (-1)])):=by
 open aqB in exact akL
theorem BZ (hs:s.size<=60000) (a g cap:Nat) (hcap:s.size<=cap) (w:World) (h7:a+1006 < s.size) (hc:BytesAt w g s) (hg:g < w.heap.size) (hH:Handle w) (hz:0<=Bf (tl s a)) (hq:¬mW (lq (Ei (tl s a)))=(tl s a).extract 0 4):Calls prog 165 #[.slice (some ⟨g,0,none⟩) s.size cap,.int .i64 a] w (dZ w (.tuple #[.string ByteArray.empty,.int .i64 (-1)])):=by
 open aqA in exact akL
theorem zY (hs:s.size<=60000) (a g cap:Nat) (hcap:s.size<=cap) (w:World) (h7:a+1006 < s.size) (hc:BytesAt w g s) (hg:g < w.heap.size) (hH:Handle w) (hz:0<=Bf (tl s a)) (hq:mW (lq (Ei (tl s a)))=(tl s a).extract 0 4):Calls prog 165 #[.slice (some ⟨g,0,none⟩) s.size cap,.int .i64 a] w (dZ w (.tuple #[.string (Ei (tl s a)),.int .i64 (a+4+Bf (tl s a))])):=by
 open aqz in exact akL
theorem R5 (h:s.size=4):Bf s < 0:=by
 have hsz:=tQ s
 have e1:iG (iZ s) 0=none:=by
  cases hG:iG (iZ s) 0 with
  |none=>rfl
  |some p=>
   obtain⟨n,c⟩:=p;obtain⟨k,hk0,hk,hc,_⟩:=Gj hG;omega
 unfold Bf jc;rw [e1];simp[textOf,R4]
theorem afm (hs:s.size<=60000) (a:Nat) (ha:a<=s.size) (g cap:Nat) (hcap:s.size<=cap) (w:World) (hc:BytesAt w g s) (hg:g < w.heap.size) (hH:Handle w):Calls prog 165 #[.slice (some ⟨g,0,none⟩) s.size cap,.int .i64 a] w (dZ w (.tuple #[.string (Ep s a),.int .i64 (Bv s a)])):=by
 have ht:=xL s a;unfold Ep Bv;by_cases h4:4<=(tl s a).size
 case' neg=>
  have hn:¬Ub s a:=λh=>h4 h.1
  rw [aGr hn,aGr hn];exact Iu s a g cap w hs ha Aaa
 by_cases h5:(tl s a).size=4
 case' pos=>
  have hz:=R5 (tl s a) h5;have hn:¬Ub s a:=λh=>absurd h.2.1 Aaa
  rw [aGr hn,aGr hn];exact BX s hs a g cap hcap w Aaa hc hg hH hz
 by_cases hz:0<=Bf (tl s a)
 case' neg=>
  have hn:¬Ub s a:=λh=>hz h.2.1
  rw [aGr hn,aGr hn]
  by_cases h6:s.size<=a+1006
  .exact DY s hs a g cap hcap w Aaa h6 hc hg hH Aaa
  .exact Cb s hs a g cap hcap w Aaa hc hg hH Aaa
 by_cases hq:mW (lq (Ei (tl s a)))=(tl s a).extract 0 4
 case' neg=>
  have hn:¬Ub s a:=λh=>hq h.2.2
  rw [aGr hn,aGr hn]
  by_cases h6:s.size<=a+1006
  .exact DX s hs a g cap hcap w Aaa h6 hc hg hH hz hq
  .exact BZ s hs a g cap hcap w Aaa hc hg hH hz hq
 have hy:Ub s a:=⟨h4,hz,hq⟩;rw [aGC hy,aGC hy];by_cases h6:s.size<=a+1006
 .exact Cc s hs a g cap hcap w Aaa h6 hc hg hH hz hq
 .exact zY s hs a g cap hcap w Aaa hc hg hH hz hq
theorem WH (a:Nat) (h:a+4<=s.size):(Bf (tl s a) < 0/\jc s ((a:Int)+4) < 0)\/(0<=Bf (tl s a)/\jc s ((a:Int)+4)=a+4+Bf (tl s a)/\j6 s ((a:Int)+4)=Ei (tl s a)):=by
 have hR:(iZ (tl s a)).data.toList=(s.data.toList.drop (a+4)).take (min (s.size - a) 1006 - 4):=by
  rw [Ev s a h,aHK];congr 1
  omega
 have hRs:(iZ (tl s a)).size=min (s.size - a) 1006 - 4:=by rw [tQ,xL]
 unfold Bf Ei;generalize iZ (tl s a)=R at *;have hl:=aW s;have hpl:(a:Int)+4=((s.data.toList.take (a+4)).length:Int):=by rw [aGG,hl];omega
 by_cases hz:0<=jc R 0
 .right
  obtain⟨_,_,hle,hsz,hput⟩:=iE hz;have hq:=xG hsz
  have hzl:(oF (j6 R 0)).size=(jc R 0).toNat:=by
   have:=congrArg List.length hput;rw [aW,aGS,aGG,aW] at this;have e0:(0:Int).toNat=0:=rfl;omega
  rw [hR] at hput;simp only[Int.toNat_zero,List.drop_zero] at hput;rw [aHP,aHb Aaa] at hput
  have hs:s.data.toList=s.data.toList.take (a+4)++(Mth.put (j6 R 0).size++((j6 R 0).data.toList++(s.data.toList.drop (a+4)).drop (jc R 0).toNat)):=by
   rw [<-aGN (Mth.put _),<-hq,hput,aGW,aGW]
  obtain⟨h1,h2⟩:=Ve hs hsz ((a:Int)+4) hpl;refine⟨hz,?_,h1⟩;rw [h2,hzl];omega
 .left
  refine⟨Aaa,?_⟩;rcases Int.lt_or_le (jc s ((a:Int)+4)) 0 with h0|h0
  .exact h0
  .exfalso
   obtain⟨_,g2,hle,hsz,hput⟩:=iE h0;have hq:=xG hsz;have hp2:=adE (j6 s ((a:Int)+4));have ea:((a:Int)+4).toNat=a+4:=Aaa
   rw [ea,List.drop_take] at hput
   have hzl:(oF (j6 s ((a:Int)+4))).size=(jc s ((a:Int)+4)).toNat - (a+4):=by
    have:=congrArg List.length hput;rw [aW,aGG,aGS,aW] at this;omega
   have hs:R.data.toList=[]++(Mth.put (j6 s ((a:Int)+4)).size++((j6 s ((a:Int)+4)).data.toList++R.data.toList.drop ((jc s ((a:Int)+4)).toNat - (a+4)))):=by
    rw [<-aGN (Mth.put _),<-hq,hput,aHI];conv=>lhs;rw [<-aGW ((jc s ((a:Int)+4)).toNat - (a+4)) R.data.toList]
    congr 1
    rw [hR,aHP,aHb Aaa]
   obtain⟨_,h2⟩:=Ve hs hsz 0 rfl;rw [h2] at hz;omega
def zn (s:ByteArray) (a:Nat):Bool:=decide (Ub s a)&&lH (Ep s a)
theorem GX (a:Nat) (h:a+4 < s.size):zn s a=(decide (0<=jc s ((a:Int)+4))&&lH (j6 s ((a:Int)+4))&&decide (s.extract a (a+4)=mW (lq (j6 s ((a:Int)+4))))):=by
 unfold zn Ep;have hc:=CV s a 0 4 Aaa;have hs:=xL s a;rcases WH s a Aaa with⟨h1,h2⟩|⟨h1,h2,h3⟩
 .have hn:¬Ub s a:=λh=>absurd h.2.1 Aaa
  rw [aGi hn,aGi (show¬0<=jc s ((a:Int)+4) by omega)];rfl
 .rw [aGk (show 0<=jc s ((a:Int)+4) by omega),h3];by_cases hq:mW (lq (Ei (tl s a)))=s.extract a (a+4)
  .have hy:Ub s a:=⟨Aaa,h1,by rw [hc];exact hq⟩;rw [aGk hy,aGC hy,aGk hq.symm];simp
  .have hn:¬Ub s a:=λh=>hq (by have:=h.2.2;rw [hc] at this;exact this)
   rw [aGi hn,aGi (λh=>hq h.symm)];simp
theorem jE {s:ByteArray} {a:Nat} (h:zn s a=true):a+4 < s.size/\Ep s a=j6 s ((a:Int)+4)/\Bv s a=jc s ((a:Int)+4)/\(a:Int)+4 < Bv s a/\Bv s a<=s.size/\lH (Ep s a)=true/\(Ep s a).size<=1000:=by
 unfold zn at h;simp only[aGl,aGR] at h;obtain⟨hf,hg⟩:=h;have hs:=xL s a;have h4:=hf.1;have hne:(tl s a).size≠4:=λhe=>by have:=R5 _ he;have:=hf.2.1;omega
 have hT:Ep s a=Ei (tl s a):=aGC hf;have hE:Bv s a=a+4+Bf (tl s a):=aGC hf;rcases WH s a Aaa with⟨h1,_⟩|⟨h1,h2,h3⟩
 .have:=hf.2.1;omega
 .obtain⟨_,_,k1,k2,k3⟩:=iE (s:=s) (i:=(a:Int)+4) Aaa;have hgs:0 < (Ep s a).size:=by unfold lH at hg;simp only[aGl,aGR] at hg;exact hg.1.1.1
  have hpos:0 < Bf (tl s a):=by
   have hq:=xG k2;have:=congrArg List.length (k3.symm.trans hq);rw [aGp,aGS,aGG,aW,aW] at this;rw [h3] at this;rw [hT] at hgs;omega
  exact⟨Aaa,by rw [hT,h3],by rw [hE,h2],Aaa,Aaa,hg,by rw [hT,<-h3];exact k2⟩
def jZ (s:ByteArray):Nat->Nat->List gW×Nat
 |0,a=>([],a)
 |f+1,a=>if zn s a=true then(opC (Ep s a)::(jZ s f (Bv s a).toNat).1,(jZ s f (Bv s a).toNat).2) else([],a)
def dR (s:ByteArray):List gW×Nat:=if s.size<=60000 then jZ s (s.size+1) 0 else([],0)
def zL (s:ByteArray) (a:Nat) (L:List gW):Prop:=L.length<=a/\a<=s.size/\∃f,s.size < a+f/\dR s=(L++(jZ s f a).1,(jZ s f a).2)
theorem Dk (h:s.size<=60000):zL s 0 []:=⟨aGh _,aGB _,s.size+1,Aaa,by unfold dR;rw [aGC h];simp⟩
theorem Gt {s:ByteArray} {a:Nat} {L:List gW} (h:zL s a L) (hs:zn s a=true):zL s (Bv s a).toNat (L++[opC (Ep s a)]):=by
 obtain⟨h1,h2,f,h3,h4⟩:=h;obtain⟨p1,_,_,p2,p3,_⟩:=jE hs;refine⟨by rw [aGp];simp;omega,Aaa,?_⟩;cases f with
 |zero=>omega
 |succ f=>
  refine⟨f,Aaa,?_⟩;rw [h4];simp only[jZ,aGC hs];rw [aGN];rfl
theorem CK {s:ByteArray} {a:Nat} {L:List gW} (h:zL s a L) (hs:zn s a=false):dR s=(L,a):=by
 obtain⟨_,h2,f,h3,h4⟩:=h;cases f with
 |zero=>omega
 |succ f=>
  rw [h4];simp only[jZ,hs,Bool.false_eq_true,if_false];rw [aHB]
theorem RV {s:ByteArray} {a:Nat} (h:¬a+4 < s.size):zn s a=false:=by
 cases hs:zn s a with
 |false=>rfl
 |true=>exact absurd (jE hs).1 h
end Go.Proofs.YtohmklmkjmlpjaaGreatDoor
