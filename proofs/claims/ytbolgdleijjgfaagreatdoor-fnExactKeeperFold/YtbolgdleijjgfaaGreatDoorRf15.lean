/- Parts. -/
import Derived.Test.YtbolgdleijjgfaaGreatDoorRf13
import Derived.Test.YtbolgdleijjgfaaGreatDoorRf14
namespace Go.Proofs.YtbolgdleijjgfaaGreatDoor
open Go.Proofs.Tryz
set_option maxHeartbeats 4000000
open Go.RowKit
open Mth
variable (s:ByteArray) {w w' w0 w1 w2 wr:World} {g a fb:Nat} {v:Value} {L:List gP} {t:TypeId} {cs:Array Value}
abbrev oD (o:gP):List Value:=[.int .i64 o.K,.int .i64 o.no,.string o.k,.int .i64 o.n,.int .i64 o.m.K,.int .i64 o.m.F,.int .i64 o.m.T,.int .i64 o.m.I,.int .i64 o.m.L,.string o.m.k,.int .i64 o.m.N]
theorem kC (o:gP):(oD o).length=11:=rfl
theorem Pq:∀(o:gP),∀u∈oD o,u.oneCell'=true:=by
 intro o u hu;simp only[oD,aFd,aFW,or_false] at hu;rcases hu with rfl|rfl|rfl|rfl|rfl|rfl|rfl|rfl|rfl|rfl|rfl<;>rfl
theorem yV (l:List gP) (o:gP):GR.flat oD (l++[o])=GR.flat oD l++oD o:=by rw [GR.flat_append,GR.flat_one]
abbrev JW (w:World) (a:Option Addr) (l:List gP):Prop:=GR.At oD 11 w a l
theorem JW.eleven {a:Option Addr} {l:List gP} (h:JW w a l) (i:Nat) (hi:i < l.length):∃g off,a=some ⟨g,off,none⟩/\g < w.heap.size/\w.cell? ⟨g,off+i*11,none⟩=some (.int .i64 l[i].K)/\w.cell? ⟨g,off+i*11+1,none⟩=some (.int .i64 l[i].no)/\w.cell? ⟨g,off+i*11+2,none⟩=some (.string l[i].k)/\w.cell? ⟨g,off+i*11+3,none⟩=some (.int .i64 l[i].n)/\w.cell? ⟨g,off+i*11+4,none⟩=some (.int .i64 l[i].m.K)/\w.cell? ⟨g,off+i*11+5,none⟩=some (.int .i64 l[i].m.F)/\w.cell? ⟨g,off+i*11+6,none⟩=some (.int .i64 l[i].m.T)/\w.cell? ⟨g,off+i*11+7,none⟩=some (.int .i64 l[i].m.I)/\w.cell? ⟨g,off+i*11+8,none⟩=some (.int .i64 l[i].m.L)/\w.cell? ⟨g,off+i*11+9,none⟩=some (.string l[i].m.k)/\w.cell? ⟨g,off+i*11+10,none⟩=some (.int .i64 l[i].m.N):=by
 obtain⟨g,off,e,hg,hc⟩:=h i hi;refine⟨g,off,e,hg,?_,?_,?_,?_,?_,?_,?_,?_,?_,?_,?_⟩
 .simpa using hc 0 Aaa
 .exact Wp
 .exact Wq
 .exact Ws
 .simpa [aFv] using hc 4 Aaa
 .simpa [aFv] using hc 5 Aaa
 .simpa [aFv] using hc 6 Aaa
 .simpa [aFv] using hc 7 Aaa
 .simpa [aFv] using hc 8 Aaa
 .simpa [aFv] using hc 9 Aaa
 .simpa [aFv] using hc 10 Aaa
set_option maxRecDepth 100000
def BytesAt (w:World) (g:Nat) (s:ByteArray):Prop:=∀i (hi:i < s.size),w.cell? ⟨g,i,none⟩=some (.int .u8 (s[i].toNat:Int))
theorem BytesAt.below {s:ByteArray} (h:BytesAt w g s) (hg:g < w.heap.size) (hb:aH w w'):BytesAt w' g s:=λi hi=>by rw [(fG hb).1 g i hg];exact h i hi
theorem aeJ (b off i:Nat):(⟨b,off,none⟩:Addr).add i=⟨b,off+i,none⟩:=by unfold Addr.add;split<;>simp_all
theorem uM {s:ByteArray} (h:BytesAt w g s) (lo n cap:Nat) (hn:lo+n<=s.size):(convert 127 9 (.slice (some ⟨g,lo,none⟩) n cap)).run prog w= .ok (.string (s.extract lo (lo+n))) w:=by
 have hl:(s.extract lo (lo+n)).data.toList.length=n:=by rw [bf,aGw];omega
 have hc:=aGt (P:=prog) w 127 9 5 ⟨g,lo,none⟩ cap (s.extract lo (lo+n)).data.toList underlying127 underlying5 underlying9 (λj hj=>by
  rw [aeJ,h (lo+j) Aaa]
  congr 3
  have e:(s.extract lo (lo+n)).data.toList[j]=s.data.toList[lo+j]'(by rw [bf];omega):=by
   simp only[aGl];rw [List.getElem_take,List.getElem_drop]
  rw [e]
  rfl)
 rw [hl] at hc;exact hc
theorem TH (w:World):∃(cap:Nat) (w1:World),(convert 9 127 (.string s)).run prog w= .ok (.slice (some ⟨w.heap.size,0,none⟩) s.size cap) w1/\s.size<=cap/\BytesAt w1 w.heap.size s/\w.heap.size < w1.heap.size/\aH w w1:=by
 refine⟨_,_,run_bytes_of_string (P:=prog) w 9 127 5 s underlying9 underlying127 underlying5,?_,?_,?_,?_⟩
 .exact grownCap_ge w s.size 0 5
 .intro i hi;have h:=World.cell?_alloc_mark w.drew (bytesRow s (grownCap w s.size 0 5)) 5 ((bytesRow s (grownCap w s.size 0 5)).size,(bytesRow s (grownCap w s.size 0 5)).size+1) i;refine Eq.trans h ?_;rw [bytesRow_at s _ i hi];rfl
 .simp
 .exact((aE3 _ w).drew).alloc (aER _) _
def tl (s:ByteArray) (a:Nat):ByteArray:=s.extract a s.size
theorem xW (a:Nat):(tl s a).size=s.size - a:=by unfold tl;rw [aGw];omega
theorem Db (a i j:Nat) (h:a+j<=s.size):(tl s a).extract i j=s.extract (a+i) (a+j):=by
 apply aF8
 apply Array.ext'
 unfold tl;rw [aGl,aGl,aGl];rw [List.drop_take,List.drop_drop,aGH];congr 1
 omega
def Wx (s:ByteArray) (a:Nat):Prop:=4<=(tl s a).size/\0<=BI (tl s a)/\mX (lu (Ep (tl s a)))=(tl s a).extract 0 4
instance (s:ByteArray) (a:Nat):Decidable (Wx s a):=by unfold Wx;exact inferInstance
def Ip (s:ByteArray) (a:Nat):ByteArray:=if Wx s a then Ep (tl s a) else ByteArray.empty
def IU (s:ByteArray) (a:Nat):Int:=if Wx s a then a+4+BI (tl s a) else -1
theorem EF (a:Nat) (h:a+4<=s.size):iN (tl s a)=s.extract (a+4) (a+min (s.size - a) 1006):=by
 unfold iN;rw [xW,Db _ _ _ _ Aaa]
theorem IV (a g cap:Nat) (w:World) (hs:s.size<=60000) (ha:a<=s.size) (h:s.size < a+4):Calls prog 195 #[.slice (some ⟨g,0,none⟩) s.size cap,.int .i64 a] w (dU w (.tuple #[.string ByteArray.empty,.int .i64 (-1)])):=by
 have h1:(s.size:Int)<=(a:Int)+1006:=Aaa
 have h2:(s.size:Int) - (a:Int) < 4:=Aaa
 clear h;go_in
 go_wp2_with fail;exact aEY (v:= .tuple #[.string ⟨#[]⟩,.int .i64 (-1)]) Acg rfl ⟨rfl,aE3 _ _⟩
theorem Cg (hs:s.size<=60000) (a g cap:Nat) (hcap:s.size<=cap) (w:World) (h4:s.size=a+4) (hc:BytesAt w g s) (_hg:g < w.heap.size) (hH:Handle w) (hz:BI (tl s a) < 0):Calls prog 195 #[.slice (some ⟨g,0,none⟩) s.size cap,.int .i64 a] w (dU w (.tuple #[.string ByteArray.empty,.int .i64 (-1)])):=by
 have hr:(convert 127 9 (.slice (some ⟨g,0,none⟩) 0 0)).run prog w= .ok (.string (iN (tl s a))) w:=by
  rw [EF s a Aaa];have h:=uM hc 0 0 0 Aaa;rw [h];congr 2
  rw [show min (s.size - a) 1006=4 by omega];apply aF8
  apply Array.ext'
  rw [aGl,aGl];simp
 have ha:a<=59996:=Aaa
 have h1:(a:Int)+4<=(a:Int)+1006:=Aaa
 have h2:¬((a:Int)+4 - (a:Int) < 4):=Aaa
 have hcap2:(a:Int)+4<=(cap:Int):=Aaa
 have hmn:min (4:Int) 1006=4:=rfl;have hmo:min ((a:Int)+4) ((a:Int)+1006)=(a:Int)+4:=Int.min_eq_left Aaa;open am2 in exact aer
theorem D8 (hs:s.size<=60000) (a g cap:Nat) (hcap:s.size<=cap) (w:World) (h5:a+5<=s.size) (h6:s.size<=a+1006) (hc:BytesAt w g s) (_hg:g < w.heap.size) (hH:Handle w) (hz:BI (tl s a) < 0):Calls prog 195 #[.slice (some ⟨g,0,none⟩) s.size cap,.int .i64 a] w (dU w (.tuple #[.string ByteArray.empty,.int .i64 (-1)])):=by
 open ao2 in exact ajV
theorem D7 (hs:s.size<=60000) (a g cap:Nat) (hcap:s.size<=cap) (w:World) (h5:a+5<=s.size) (h6:s.size<=a+1006) (hc:BytesAt w g s) (hg:g < w.heap.size) (hH:Handle w) (hz:0<=BI (tl s a)) (hq:¬mX (lu (Ep (tl s a)))=(tl s a).extract 0 4):Calls prog 195 #[.slice (some ⟨g,0,none⟩) s.size cap,.int .i64 a] w (dU w (.tuple #[.string ByteArray.empty,.int .i64 (-1)])):=by
 open ao1 in exact ajV
theorem Cj (hs:s.size<=60000) (a g cap:Nat) (hcap:s.size<=cap) (w:World) (h5:a+5<=s.size) (h6:s.size<=a+1006) (hc:BytesAt w g s) (hg:g < w.heap.size) (hH:Handle w) (hz:0<=BI (tl s a)) (hq:mX (lu (Ep (tl s a)))=(tl s a).extract 0 4):Calls prog 195 #[.slice (some ⟨g,0,none⟩) s.size cap,.int .i64 a] w (dU w (.tuple #[.string (Ep (tl s a)),.int .i64 (a+4+BI (tl s a))])):=by
 open ao0 in exact ajV
theorem Ci (hs:s.size<=60000) (a g cap:Nat) (hcap:s.size<=cap) (w:World) (h7:a+1006 < s.size) (hc:BytesAt w g s) (_hg:g < w.heap.size) (hH:Handle w) (hz:BI (tl s a) < 0):Calls prog 195 #[.slice (some ⟨g,0,none⟩) s.size cap,.int .i64 a] w (dU w (.tuple #[.string ByteArray.empty,.int .i64 (-1)])):=by
 open ape in exact ajX
theorem Ch (hs:s.size<=60000) (a g cap:Nat) (hcap:s.size<=cap) (w:World) (h7:a+1006 < s.size) (hc:BytesAt w g s) (hg:g < w.heap.size) (hH:Handle w) (hz:0<=BI (tl s a)) (hq:¬mX (lu (Ep (tl s a)))=(tl s a).extract 0 4):Calls prog 195 #[.slice (some ⟨g,0,none⟩) s.size cap,.int .i64 a] w (dU w (.tuple #[.string ByteArray.empty,.int .i64 (-1)])):=by
 open apd in exact ajX
theorem Ar (hs:s.size<=60000) (a g cap:Nat) (hcap:s.size<=cap) (w:World) (h7:a+1006 < s.size) (hc:BytesAt w g s) (hg:g < w.heap.size) (hH:Handle w) (hz:0<=BI (tl s a)) (hq:mX (lu (Ep (tl s a)))=(tl s a).extract 0 4):Calls prog 195 #[.slice (some ⟨g,0,none⟩) s.size cap,.int .i64 a] w (dU w (.tuple #[.string (Ep (tl s a)),.int .i64 (a+4+BI (tl s a))])):=by
 open apc in exact ajX
theorem RA (h:s.size=4):BI s < 0:=by
 have hsz:=uh s
 have e1:iB (iN s) 0=none:=by
  cases hG:iB (iN s) 0 with
  |none=>rfl
  |some p=>
   obtain⟨n,c⟩:=p;obtain⟨k,hk0,hk,hc,_⟩:=Gu hG;omega
 unfold BI jg;rw [e1];simp[textOf,Rz]
theorem ae2 (hs:s.size<=60000) (a:Nat) (ha:a<=s.size) (g cap:Nat) (hcap:s.size<=cap) (w:World) (hc:BytesAt w g s) (hg:g < w.heap.size) (hH:Handle w):Calls prog 195 #[.slice (some ⟨g,0,none⟩) s.size cap,.int .i64 a] w (dU w (.tuple #[.string (Ip s a),.int .i64 (IU s a)])):=by
 have ht:=xW s a;unfold Ip IU;by_cases h4:4<=(tl s a).size
 case' neg=>
  have hn:¬Wx s a:=λh=>h4 h.1
  rw [aE2 hn,aE2 hn];exact IV s a g cap w hs ha Aaa
 by_cases h5:(tl s a).size=4
 case' pos=>
  have hz:=RA (tl s a) h5;have hn:¬Wx s a:=λh=>absurd h.2.1 Aaa
  rw [aE2 hn,aE2 hn];exact Cg s hs a g cap hcap w Aaa hc hg hH hz
 by_cases hz:0<=BI (tl s a)
 case' neg=>
  have hn:¬Wx s a:=λh=>hz h.2.1
  rw [aE2 hn,aE2 hn]
  by_cases h6:s.size<=a+1006
  .exact D8 s hs a g cap hcap w Aaa h6 hc hg hH Aaa
  .exact Ci s hs a g cap hcap w Aaa hc hg hH Aaa
 by_cases hq:mX (lu (Ep (tl s a)))=(tl s a).extract 0 4
 case' neg=>
  have hn:¬Wx s a:=λh=>hq h.2.2
  rw [aE2 hn,aE2 hn]
  by_cases h6:s.size<=a+1006
  .exact D7 s hs a g cap hcap w Aaa h6 hc hg hH hz hq
  .exact Ch s hs a g cap hcap w Aaa hc hg hH hz hq
 have hy:Wx s a:=⟨h4,hz,hq⟩;rw [aFc hy,aFc hy];by_cases h6:s.size<=a+1006
 .exact Cj s hs a g cap hcap w Aaa h6 hc hg hH hz hq
 .exact Ar s hs a g cap hcap w Aaa hc hg hH hz hq
theorem Wu (a:Nat) (h:a+4<=s.size):(BI (tl s a) < 0/\jg s ((a:Int)+4) < 0)\/(0<=BI (tl s a)/\jg s ((a:Int)+4)=a+4+BI (tl s a)/\kN s ((a:Int)+4)=Ep (tl s a)):=by
 have hR:(iN (tl s a)).data.toList=(s.data.toList.drop (a+4)).take (min (s.size - a) 1006 - 4):=by
  rw [EF s a h,aGl];congr 1
  omega
 have hRs:(iN (tl s a)).size=min (s.size - a) 1006 - 4:=by rw [uh,xW]
 unfold BI Ep;generalize iN (tl s a)=R at *;have hl:=bf s;have hpl:(a:Int)+4=((s.data.toList.take (a+4)).length:Int):=by rw [aFj,hl];omega
 by_cases hz:0<=jg R 0
 .right
  obtain⟨_,_,hle,hsz,hput⟩:=iO hz;have hq:=CQ hsz;have hzl:(pQ (kN R 0)).size=(jg R 0).toNat:=by grind [bf]
  rw [hR] at hput;simp only[Int.toNat_zero,List.drop_zero] at hput;rw [aGH,aFZ Aaa] at hput;grind [jg,kN,ado,List.append_assoc,List.take_append_drop]
 .left
  refine⟨Aaa,?_⟩;rcases Int.lt_or_le (jg s ((a:Int)+4)) 0 with h0|h0
  .exact h0
  .exfalso
   obtain⟨_,g2,hle,hsz,hput⟩:=iO h0;have hq:=CQ hsz;have hp2:=adf (kN s ((a:Int)+4));have ea:((a:Int)+4).toNat=a+4:=Aaa
   rw [ea,List.drop_take] at hput;have hzl:(pQ (kN s ((a:Int)+4))).size=(jg s ((a:Int)+4)).toNat - (a+4):=by grind [bf]
   have hs:R.data.toList=[]++(Mth.put (kN s ((a:Int)+4)).size++((kN s ((a:Int)+4)).data.toList++R.data.toList.drop ((jg s ((a:Int)+4)).toNat - (a+4)))):=by
    rw [<-aFx (Mth.put _),<-hq,hput,aF5];conv=>lhs;rw [<-aFJ ((jg s ((a:Int)+4)).toNat - (a+4)) R.data.toList]
    grind
   obtain⟨_,h2⟩:=ado hs hsz 0 rfl;rw [h2] at hz;omega
def Eo (s:ByteArray) (a:Nat):Bool:=decide (Wx s a)&&lH (Ip s a)
theorem adA (a:Nat) (h:a+4 < s.size):Eo s a=(decide (0<=jg s ((a:Int)+4))&&lH (kN s ((a:Int)+4))&&decide (s.extract a (a+4)=mX (lu (kN s ((a:Int)+4))))):=by
 unfold Eo Ip;have hc:=Db s a 0 4 Aaa;have hs:=xW s a;rcases Wu s a Aaa with⟨h1,h2⟩|⟨h1,h2,h3⟩
 .grind [Wx,jg]
 .grind [Wx,jg,lu,tl,Ep,mX]
theorem uy {s:ByteArray} (h:Eo s a=true):a+4 < s.size/\Ip s a=kN s ((a:Int)+4)/\IU s a=jg s ((a:Int)+4)/\(a:Int)+4 < IU s a/\IU s a<=s.size/\lH (Ip s a)=true/\(Ip s a).size<=1000:=by
 unfold Eo at h;simp only[aEX,aFu] at h;obtain⟨hf,hg⟩:=h;have hs:=xW s a;have h4:=hf.1;have hne:(tl s a).size≠4:=λhe=>by have:=RA _ he;have:=hf.2.1;omega
 have hT:Ip s a=Ep (tl s a):=aFc hf;have hE:IU s a=a+4+BI (tl s a):=aFc hf;rcases Wu s a Aaa with⟨h1,_⟩|⟨h1,h2,h3⟩
 .have:=hf.2.1;omega
 .obtain⟨_,_,k1,k2,k3⟩:=iO (s:=s) (i:=(a:Int)+4) Aaa;have hgs:0 < (Ip s a).size:=by unfold lH at hg;simp only[aEX,aFu] at hg;exact hg.1.1.1
  grind [tl,BI,CQ,bf]
def tV (s:ByteArray):Nat->Nat->List gP×Nat
 |0,a=>([],a)
 |f+1,a=>if Eo s a=true then(opC (Ip s a)::(tV s f (IU s a).toNat).1,(tV s f (IU s a).toNat).2) else([],a)
def gK (s:ByteArray):List gP×Nat:=if s.size<=60000 then tV s (s.size+1) 0 else([],0)
def zX (s:ByteArray) (a:Nat) (L:List gP):Prop:=L.length<=a/\a<=s.size/\∃f,s.size < a+f/\gK s=(L++(tV s f a).1,(tV s f a).2)
theorem Dx (h:s.size<=60000):zX s 0 []:=⟨aER _,aE7 _,s.size+1,Aaa,by unfold gK;rw [aFc h];simp⟩
theorem GL {s:ByteArray} {a:Nat} {L:List gP} (h:zX s a L) (hs:Eo s a=true):zX s (IU s a).toNat (L++[opC (Ip s a)]):=by
 obtain⟨h1,h2,f,h3,h4⟩:=h;obtain⟨p1,_,_,p2,p3,_⟩:=uy hs;refine⟨by rw [aEW];simp;omega,Aaa,?_⟩;cases f with
 |zero=>omega
 |succ f=>
  refine⟨f,Aaa,?_⟩;rw [h4];simp only[tV,aFc hs];rw [aFx];rfl
theorem CV {s:ByteArray} {a:Nat} {L:List gP} (h:zX s a L) (hs:Eo s a=false):gK s=(L,a):=by
 obtain⟨_,h2,f,h3,h4⟩:=h;cases f with
 |zero=>omega
 |succ f=>
  rw [h4];simp only[tV,hs,Bool.false_eq_true,if_false];rw [aF4]
theorem Rw {s:ByteArray} {a:Nat} (h:¬a+4 < s.size):Eo s a=false:=by
 cases hs:Eo s a with
 |false=>rfl
 |true=>exact absurd (uy hs).1 h
theorem acs:(prog.info? 73).map (λi=>(i.zero,i.size,i.bytes))=some (some (.agg (bV 0 0 ByteArray.empty 0 0 0 0 0 0 ByteArray.empty 0)),11,104):=Aab
theorem azM {c:Nat} (h:w.heap[c]?=some (.cells cs t (0,0))) (i:Nat) (v:Value):(w.setCell ⟨c,i,none⟩ v).heap[c]?=some (.cells (cs.setIfInBounds i v) t (0,0)):=by
 exact Wj
theorem ai6 (h:w.heap[g]?=some (.cells cs t (0,0))) (i:Nat):w.frozen? ⟨g,i,none⟩=false:=by
 unfold World.frozen?;rw [h];simp
theorem ZQ {v0 v1:Value} (h:w.heap[g]?=some (.cells #[v0,v1] t (0,0))):w.cell? ⟨g,0,none⟩=some v0/\w.cell? ⟨g,1,none⟩=some v1:=by
 have hc:∀i,w.cell? ⟨g,i,none⟩=#[v0,v1][i]?:=λi=>aE1 w g i _ t (0,0) h
 exact⟨hc 0,hc 1⟩
structure FS (w0 w:World) (fb g:Nat) (s:ByteArray) (v:Value) (L:List gP) (a:Nat):Prop where
 keep:dQ fb w0 w
 blk:w.heap[fb]?=some (.cells #[v,.int .i64 a] 210 (0,0))
 own:w.ownsRow (g+1) 73 11 v L.length (GR.flat oD L)
 by_:BytesAt w g s
 lo:fb < w0.heap.size
 gl:w0.heap.size<=g/\g < w.heap.size
theorem FS.step {s:ByteArray} (h:FS w0 w fb g s v L a) (hb:aH w w'):FS w0 w' fb g s v L a:=
 ⟨h.keep.trans (dQ.of_below hb),aJ h.blk hb,own_below h.own hb,h.by_.below h.gl.2 hb,h.lo,h.gl.1,aEZ h.gl.2 hb.size⟩
theorem FS.app {w6:World} {s:ByteArray} {v':Value} (h:FS w0 w fb g s v L a) (o:gP) (hown:w6.ownsRow (g+1) 73 11 v' (L.length+1) (GR.flat oD L++oD o)) (hg:w.grownBy w6 v.ownBlock):
 w6.heap[fb]?=some (.cells #[v,.int .i64 a] 210 (0,0))/\∀z:Nat,FS w0 ((w6.setCell ⟨fb,0,none⟩ v').setCell ⟨fb,1,none⟩ (.int .i64 z)) fb g s v' (L++[o]) z:=by
 have hlt:∀x,v.ownBlock=some x->g+1<=x:=λx hx=>(h.own.lt x hx).1
 have hgl:=h.gl;have hlo:=h.lo
 have hb:w6.heap[fb]?=some (.cells #[v,.int .i64 a] 210 (0,0)):=by
  rw [hg.block fb (dx h.blk) (λe=>by have:=hlt fb e.symm;omega)];exact h.blk
 have hbg:w6.heap[g]?=w.heap[g]?:=hg.block g hgl.2 (λe=>by have:=hlt g e.symm;omega)
 have h6:dQ fb w0 w6:=⟨hg.os.trans h.keep.os,hg.tape.trans h.keep.tape,hg.output.trans h.keep.output,aEU h.keep.size hg.size,λk hk hne=>by
  rw [hg.block k (aEZ hk h.keep.size) (λe=>by have:=hlt k e.symm;omega)]
  exact h.keep.block k hk hne⟩
 have hby:BytesAt w6 g s:=λi hi=>(aFw (w:=w) hbg).trans (h.by_ i hi)
 have gr:∀(w1:World) (i:Nat) (u:Value),w1.grownBy (w1.setCell ⟨fb,i,none⟩ u) (some fb):=λw1 i u=>⟨rfl,rfl,rfl,Aaq,λk _ hne=>aFe _ _ _ _ (λe=>hne Aap)⟩
 have hne:v'.ownBlock=none\/v'.ownBlock≠some fb:=by
  right
  intro e;have:=(hown.lt fb e).1;omega
 have st:∀(w1:World) (i:Nat) (u:Value),BytesAt w1 g s->BytesAt (w1.setCell ⟨fb,i,none⟩ u) g s:=λw1 i u hw j hj=>(aF0 _ _ _ _ (by simp<;>omega)).trans (hw j hj)
 refine⟨hb,λz=>⟨(h6.trans (dQ.set _)).trans (dQ.set _),azM (azM hb 0 v') 1 (.int .i64 z),?_,st _ _ _ (st _ _ _ hby),hlo,hgl.1,?_⟩⟩
 .rw [aEW,yV];exact(hown.kept (gr _ 0 v') hne).kept (gr _ 1 (.int .i64 z)) hne
 .have:=hg.size;simp[World.setCell];omega
def endOf (w:World) (fb:Nat):Nat:=match w.cell? ⟨fb,1,none⟩ with|some (.int _ z)=>z.toNat|_=>0
theorem FS.endOf {s:ByteArray} (h:FS w0 w fb g s v L a):endOf w fb=a:=by
 unfold Go.Proofs.YtbolgdleijjgfaaGreatDoor.endOf;rw [(ZQ h.blk).2];simp
def Found (w w':World) (fb:Nat) (s:ByteArray):Prop:=dQ fb w w'/\∃v,w'.heap[fb]?=some (.cells #[v,.int .i64 (gK s).2] 210 (0,0))/\w'.ownsRow (w.heap.size+1) 73 11 v (gK s).1.length (GR.flat oD (gK s).1)
theorem FS.found {s:ByteArray} (h:FS w0 w fb w0.heap.size s v L a) (hS:zX s a L) (hs:Eo s a=false) (hb:aH w w'):Found w0 w' fb s:=by
 have h2:=h.step hb;refine⟨h2.keep,v,?_,?_⟩
 .rw [CV hS hs];exact h2.blk
 .rw [CV hS hs];exact h2.own
theorem ac3 {s:ByteArray} (h:¬Wx s a):Eo s a=false/\IU s a= -1:=by
 unfold Eo IU;rw [aES h,aE2 h];exact⟨rfl,rfl⟩
theorem readAll (fb:Nat) (s:ByteArray) (hs:s.size<=60000) (w:World) (hfb:fb < w.heap.size) (hne:fb≠0) (hf:w.heap[fb]?=some (.cells #[.slice none 0 0,.int .i64 0] 210 (0,0))) (hH:Handle w):
 Calls prog 176 #[.pointer (some ⟨fb,0,none⟩),.string s] w λe w'=>(e= .returned (.tuple #[])\/∃p,e=Zc p)/\Found w w' fb s:=by
 obtain⟨i0,hi,hz0,hz1,hz2⟩:=aFt acs;obtain⟨cap,w1,abS,hcap,hby,hlt1,hbel⟩:=TH s w;have HF1:=Hq (show FS w w1 fb w.heap.size s (.slice none 0 0) [] 0 from⟨dQ.of_below hbel,aJ hf hbel,World.ownsRow_nil _ _ _ _,hby,hfb,aER _,hlt1⟩);have HH:=Hq hH;have zJ:=Hq (Dx s hs);clear hbel hby hf hH hlt1;go_in
 go_wp2_with fail;go_loopw [] (λwr=>∃a v L,FS w wr fb w.heap.size s v L a/\zX s a L) (λwr=>s.size - endOf wr fb)
 case atStart=>exact⟨0,_,[],HF1,zJ⟩
 case round=>
  clear HF1 zJ abS;obtain⟨a,v,L,hF,hS⟩:=hrel;have hcl:=hF.lo;have hbl:=dx hF.blk;obtain⟨va,vc,hv,_⟩:=GR.own_at (enc:=oD) (sz:=11) (l:=L) kC hF.own;subst hv;obtain⟨c0,c1⟩:=ZQ hF.blk;have hea:endOf wr fb=a:=hF.endOf;have HF:=Hq hF;have HEA:=Hq hea;have HS:=Hq hS;have ha:=hS.2.1;have HL:=Hq hS.1;clear hF hS hea;by_cases hlt:a < s.size
  case' neg=>
   have hnl:decide ((a:Int) < (s.size:Int))=false:=Aah
   go_wp2_with fail;exact aGJ (v:= .tuple #[]) (by simp[results,results176,go_sem]) rfl ⟨.inl rfl,HF.found HS (Rw Aaa) (aE3 _ _)⟩
  have hlI:(a:Int) < (s.size:Int):=Aaa
  have HFA:=Hq (ae2 s hs a ha w.heap.size cap hcap wr HF.by_ HF.gl.2 (HH.keep1 HF.keep hfb hne));by_cases hfa:Wx s a
  case' neg=>
   obtain⟨hst,hE⟩:=ac3 hfa;have HST:=Hq hst;clear hst;rw [hE] at HFA;clear hE hfa;generalize Ip s a=TX at *;go_wp2_with fail;refine HFA.mono ?_;rintro e w2 ⟨rfl,hb2⟩;obtain⟨d0,d1⟩:=ZQ (HF.step hb2).blk;have HB2:=Hq hb2;clear hb2 c0 c1;go_wp2_with fail;exact⟨rfl,.inr ⟨_,rfl⟩,HF.found HS HST HB2⟩
  have HFB:=Hq hfa
  have hE:IU s a=((IU s a).toNat:Nat):=by
   have h1:=hfa.2.1;have:IU s a=a+4+BI (tl s a):=aFc hfa;omega
  have hE2:(IU s a).toNat<=100000:=by
   have h1:IU s a=a+4+BI (tl s a):=aFc hfa;have h2:=UK (iN (tl s a)) 0;have h3:=uh (tl s a);unfold BI at h1;omega
  have hTX:(Ip s a).size<=1000:=by
   have h1:Ip s a=Ep (tl s a):=aFc hfa;rw [h1];exact Gz _ _
  have HO:=Hq (λw1 h=>aDe (Ip s a) w1 (aEU hTX Aaj) h);have HY:=Hq (show lH (Ip s a)=true->Eo s a=true from λh=>by unfold Eo;rw [aET hfa,h];rfl);have HN:=Hq (show lH (Ip s a)=false->Eo s a=false from λh=>by unfold Eo;rw [h,Bool.and_false]);have iJ:=Hq (show Eo s a=true->zX s (IU s a).toNat (L++[opC (Ip s a)]) from λh=>GL HS h);have HGT:=Hq (show Eo s a=true->a < (IU s a).toNat/\(IU s a).toNat<=s.size from λh=>by obtain⟨_,_,_,h4,h5,_⟩:=uy h;omega);clear hTX hfa HFB;rw [hE] at HFA;clear hE;generalize (IU s a).toNat=z at *;generalize lH (Ip s a)=OK at *;generalize hoc:opC (Ip s a)=oc at *;clear hoc;generalize Ip s a=TX at *;obtain⟨K,no,k,n,⟨mK,mF,mT,mI,mL,mk,mN⟩⟩:=oc;go_wp2_with fail;refine HFA.mono ?_;rintro e w2 ⟨rfl,hb2⟩;have HF2:=Hq (HF.step hb2);clear hb2 c0 c1 HFA;go_upto_region 5 with fail;refine wp_at (λW hW=>?_);obtain rfl:=hW;have aDK:=dx HF2.blk;obtain⟨c0,c1⟩:=ZQ HF2.blk;have y0:=aEQ c0;clear c0 c1;refine mY Aab ?_;show xB _ _ _ _ 12 (Array.replicate 12 false) _ _
  open aqz in exact aj0
theorem Found.step {s:ByteArray} (h:Found w w1 fb s) (hb:aH w1 w2):Found w w2 fb s:=by
 obtain⟨hk,v,hv,ho⟩:=h;exact⟨hk.trans (dQ.of_below hb),v,aJ hv hb,own_below ho hb⟩
theorem UF {B B' size n:Nat} {e:TypeId} {xs:List Value} (h:w.ownsRow B e size v n xs) (hB:B'<=B):w.ownsRow B' e size v n xs:=by
 refine⟨h.1,?_⟩;rcases h.2 with hn|⟨g,cap,cur,rfl,hb,rest⟩
 .exact .inl hn
 .exact .inr ⟨g,cap,cur,rfl,aEU hB hb,rest⟩
theorem QN (a fb:Nat) (s:ByteArray) (hs:s.size<=60000) (w:World) (hfb:fb < w.heap.size) (hne:fb≠0) (hf:w.heap[fb]?=some (.cells #[.slice none 0 0,.int .i64 0] 210 (0,0))) (hH:Handle w) (ha:w.cell? ⟨a,0,none⟩=some (.string s)):
 Calls prog 175 #[.pointer (some ⟨fb,0,none⟩),.pointer (some ⟨a,0,none⟩)] w λe w'=>(e= .returned (.tuple #[])\/∃p,e=Zc p)/\Found w w' fb s:=by
 have HR:=Hq (readAll fb s hs w hfb hne hf hH);clear hs hf hH;go_in
 go_wp2_with fail;refine HR.mono ?_;rintro e w1 ⟨hcase,hF⟩;have HF:=Hq hF;clear hF;rcases hcase with rfl|⟨p,rfl⟩
 .go_wp2_with fail;exact aGJ (v:= .tuple #[]) (by simp[results,results175,go_sem]) rfl ⟨.inl rfl,HF⟩
 .go_wp2_with fail;exact⟨rfl,.inr ⟨_,rfl⟩,HF⟩
theorem Vf (a fb:Nat) (s:ByteArray) (hs:s.size<=60000) (w:World) (hfb:fb < w.heap.size) (hne:fb≠0) (hf:w.heap[fb]?=some (.cells #[.slice none 0 0,.int .i64 0] 210 (0,0))) (hH:Handle w) (ha:w.cell? ⟨a,0,none⟩=some (.string s)):
 Calls prog 174 #[.func (.func 175) #[] #[.pointer (some ⟨fb,0,none⟩),.pointer (some ⟨a,0,none⟩)]] w λe w'=>(∃b,e= .returned (.bool b))/\Found w w' fb s:=by
 have HC:=Hq (QN a fb s hs w hfb hne hf hH ha);clear hs hH ha hf;have hdf:∀(fn:Fn) (first cap:Array Value) (w:World),(Instr.makeFunc fn first cap).run prog w= .ok (.func fn first cap) w:=λ_ _ _ _=>rfl
 go_enter_defers func174,ntmps174
 go_wp2_with fail;refine HC.mono ?_;rintro e w1 ⟨hcase,hF⟩;have HF:=Hq hF;clear hF HC;rcases hcase with rfl|⟨p,rfl⟩
 .go_wp2_with fail;refine leaves_cons (f:=194) (args:=#[]) Aac (by simp[go_sem]) ?_;refine(TB _).mono ?_;rintro e u' w'' ⟨rfl,rfl,rfl⟩;simp[Leaves,settle,results,results174,go_sem];exact HF
 .go_wp2_with fail;refine leaves_cons (f:=194) (args:=#[]) Aac (by simp[go_sem]) ?_;refine(Yd p [] _).mono ?_;rintro e u' w'' ⟨rfl,rfl,hb⟩;have HF2:=Hq (HF.step hb);clear hb;simp[Leaves,settle,results,results174,go_sem];exact HF2
def lN (w:World) (s:ByteArray) (e:Ending) (w':World):Prop:=∃v,e= .returned (.tuple #[v,.int .i64 (gK s).2])/\w'.ownsRow w.heap.size 73 11 v (gK s).1.length (GR.flat oD (gK s).1)/\aH w w'
theorem lN.step {s:ByteArray} {e:Ending} (h:lN w s e w1) (hb:aH w1 w2):lN w s e w2:=by
 obtain⟨v,he,ho,hB⟩:=h;exact⟨v,he,own_below ho hb,hB.trans (hb.mono hB.size)⟩
theorem acp (_hs:s.size<=maxLen) (w:World) (hH:Handle w):Calls prog 144 #[.string s] w (lN w s):=by
 by_cases hbig:60000 < s.size
 .have hb1:(60000:Int) < (s.size:Int):=Aaa
  have HP:=Hq (show lN w s (.returned (.tuple #[.slice none 0 0,.int .i64 0])) (w.alloc (.cells #[.string s] 9)) from by
   have e:gK s=([],0):=by unfold gK;rw [aE2 Aaa]
   refine⟨.slice none 0 0,?_,?_,au w _⟩
   .rw [e];rfl
   .rw [e];exact World.ownsRow_nil _ _ _ _)
  clear hH;go_in
  go_wp2_with fail;exact aEY (v:= .tuple #[.slice none 0 0,.int .i64 0]) (by simp[results,results144,go_sem]) rfl HP
 .have hlt:0 < w.heap.size:=by
   exact ah2
  have hb1:¬((60000:Int) < (s.size:Int)):=Aaa
  obtain⟨hA,hF,hB⟩:=gH w (.cells #[.string s] 9) (.cells #[.slice none 0 0,.int .i64 0] 210);have HW:=Hq (Vf w.heap.size (w.heap.size+1) s Aaa _ Aac Aaa hF (hH.below hB) (aE1 _ w.heap.size 0 _ 9 (0,0) hA));have HB:=Hq hB;have hsz:((w.alloc (.cells #[.string s] 9)).alloc (.cells #[.slice none 0 0,.int .i64 0] 210)).heap.size=w.heap.size+2:=Aac
  clear hA hF hB hH hlt;have hmf:∀(fn:Fn) (first cap:Array Value) (w:World),(Instr.makeFunc fn first cap).run prog w= .ok (.func fn first cap) w:=λ_ _ _ _=>rfl
  go_in
  go_wp2_with fail;refine HW.mono ?_;rintro e w1 ⟨⟨b,rfl⟩,hk,v,hv,ho⟩;rw [hsz] at ho;have HP:=Hq (show lN w s (.returned (.tuple #[v,.int .i64 (gK s).2])) w1 from⟨v,rfl,UF ho Aaa,hk.below HB Aaa HB.size⟩);have hwl:=dx hv;obtain⟨c0,c1⟩:=ZQ hv;clear hv ho hk HW HB
  obtain⟨va,vc,hvv,_⟩:∃a c,v= .slice a (gK s).1.length c/\True:=by
   obtain⟨v2,he,hown,_⟩:=ah HP;simp only[Ending.returned.injEq,Value.tuple.injEq] at he;obtain⟨a2,c2,h2,_⟩:=GR.own_at (enc:=oD) (sz:=11) kC hown;have:v=v2:=by simpa using he
   exact⟨a2,c2,by rw [this,h2],trivial⟩
  subst hvv;generalize (gK s).2=E at *;generalize (gK s).1.length=N at *;go_wp2_with fail;go_quiet (fail);go_wp2_with fail;exact aEY (v:= .tuple #[.slice va N vc,.int .i64 E]) (by simp[results,results144,go_sem]) rfl (HP.step ⟨rfl,rfl,rfl,aER _,λ_ _=>rfl⟩)
theorem Ke {s:ByteArray} (ho:wr.ownsRow w.heap.size 73 11 v L.length (GR.flat oD L)) (hb:aH w wr) (hS:zX s a L) (hs:Eo s a=false) (hz:aH wr w'):lN w s (.returned (.tuple #[v,.int .i64 a])) w':=by
 have e:=CV hS hs;exact⟨v,Aap,by rw [e];exact own_below ho hz,hb.trans (hz.mono hb.size)⟩
theorem Yn {s:ByteArray} (ho:wr.ownsRow w.heap.size 73 11 v ([]:List gP).length (GR.flat oD [])) (hb:aH w wr) (h:60000 < s.size):lN w s (.returned (.tuple #[v,.int .i64 (0:Nat)])) wr:=by
 have e:gK s=([],0):=by unfold gK;rw [aE2 Aaa]
 exact⟨v,Aap,by rw [e];exact ho,hb⟩
theorem Rs (hs:s.size<=maxLen) (w:World):Calls prog 48 #[.string s] w (lN w s):=by
 obtain⟨i0,hi,hz0,hz1,hz2⟩:=aFt acs;have hs2:s.size<=9223372036854775807:=by unfold maxLen at hs;omega
 have HG:=Hq (λi w1=>Nz s i hs w1);clear hs;go_in
 go_wp2_with fail;go_loopw [4,5] (λv at_ wr=>∃(a:Nat) (L:List gP),at_= .int .i64 a/\wr.ownsRow w.heap.size 73 11 v L.length (GR.flat oD L)/\aH w wr/\((s.size<=60000/\zX s a L)\/(60000 < s.size/\a=0/\L=[]))) (λ_ at_ _=>s.size - (intOf at_).toNat)
 case atStart=>
  refine⟨0,[],rfl,aFC _ #[] 0 (aER _) Aae rfl,(aE3 _ _).alloc (aER _) _,?_⟩;by_cases h:s.size<=60000
  .exact .inl ⟨h,Dx s h⟩
  .exact .inr ⟨Aaa,rfl,rfl⟩
 case round=>
  obtain⟨a,L,rfl,hown,hbel,hcase⟩:=hrel;obtain⟨va,vc,rfl,_⟩:=GR.own_at (enc:=oD) (sz:=11) (l:=L) kC hown;have HOWN:=Hq hown;have aZ:=Hq hbel;clear hown hbel;rcases hcase with⟨hsm,hS⟩|⟨hbig,rfl,rfl⟩
  case' inr=>
   have hb1:decide ((s.size:Int)<=60000)=false:=Aah
   go_wp2_with fail;exact aEY (v:= .tuple #[.slice va 0 vc,.int .i64 0]) Acp rfl (Yn HOWN aZ hbig)
  have hb1:decide ((s.size:Int)<=60000)=true:=Aah
  have ha:=hS.2.1;have HS:=Hq hS;clear hS;by_cases h4:a+4 < s.size
  case' neg=>
   have hb2:decide ((4:Int) < (s.size:Int) - (a:Int))=false:=Aah
   have HST:=Hq (Rw h4);go_wp2_with fail;exact aEY (v:= .tuple #[.slice va L.length vc,.int .i64 a]) Acp rfl (Ke HOWN aZ HS HST (aE3 _ _))
  have hb2:decide ((4:Int) < (s.size:Int) - (a:Int))=true:=Aah
  have h4i:(a:Int)+4 < (s.size:Int):=Aaa
  have hw4:IntKind.i64.wrap ((a:Int)+4)=(a:Int)+4:=IntWalk.i64_in _ ⟨Aaa,Aaa⟩;have hw5:0<=(a:Int)+4/\(a:Int)+4<=(s.size:Int):=Aaa
  have hw6:(a:Int)<=(a:Int)+4:=Aaa
  have hw7:((a:Int)+4).toNat=a+4:=Aaa
  have Ih:=Hq (λw1=>HG ((a:Int)+4) w1);have hTX:=Gz s ((a:Int)+4);have hEl:=UK s ((a:Int)+4);have akB:(kN s ((a:Int)+4)).size<=maxLen:=aEU hTX Aaj;have ES:=Hq (λw1=>ZC (kN s ((a:Int)+4)) akB w1);have HC:=Hq (λw1=>Nq (kN s ((a:Int)+4)) w1 akB);have e:(65536*(sums (kN s ((a:Int)+4)).data.toList).2+(sums (kN s ((a:Int)+4)).data.toList).1:Int)=(lu (kN s ((a:Int)+4)):Int):=by unfold lu;omega
  rw [e] at HC;have HW:=Hq (λw1=>afo (lu (kN s ((a:Int)+4))) (NH _) w1);have hspec:=adA s a h4;have aak:=Hq (λh:Eo s a=true=>(show _/\_ from⟨GL HS h,uy h⟩));unfold Ma at ES;have HOC:=Hq (show lH (kN s ((a:Int)+4))=true->getOp (kN s ((a:Int)+4))=opC (kN s ((a:Int)+4)) from λh=>by unfold getOp;rw [aFc h]);clear e hTX akB HG;by_cases hE:jg s ((a:Int)+4) < 0
  case' pos=>
   have HST:=Hq (show Eo s a=false by rw [hspec,aES Aaa];rfl);have hd:decide (jg s ((a:Int)+4) < 0)=true:=aET hE;clear hspec aak HOC;generalize jg s ((a:Int)+4)=E at *;generalize mX (lu (kN s ((a:Int)+4)))=bW at *;generalize lu (kN s ((a:Int)+4))=nn at *;generalize lH (kN s ((a:Int)+4))=OK at *;exact Zk5
  have hd:decide (jg s ((a:Int)+4) < 0)=false:=aES hE;have hd2:decide (0<=jg s ((a:Int)+4))=true:=aET Aaa;rw [hd2,Bool.true_and] at hspec;clear hd2;cases hok:lH (kN s ((a:Int)+4))
  case' false=>
   have HST:=Hq (show Eo s a=false by rw [hspec,hok];rfl);rw [hok] at ES;clear hspec aak HOC hok;exact ah7
  rw [hok,Bool.true_and] at hspec;rw [hok] at ES;have hoc:=ah HOC hok;clear HOC hok;by_cases hq:s.extract a (a+4)=mX (lu (kN s ((a:Int)+4)))
  case' neg=>
   have HST:=Hq (show Eo s a=false by rw [hspec,aES hq])
   have hqq:((s.extract a (a+4)).toList == (mX (lu (kN s ((a:Int)+4)))).toList)=false:=by
    rw [aGs];intro h;rw [aFG,aFG] at h;exact hq (aF8 (Array.ext' h))
   clear hspec aak hq hoc;exact ah7
  have hqq:((s.extract a (a+4)).toList == (mX (lu (kN s ((a:Int)+4)))).toList)=true:=by rw [hq];simp
  have hst:Eo s a=true:=by rw [hspec,aET hq]
  obtain⟨hN1,_,hf1,hf2,hf3,hf4,_⟩:=ah aak hst;have hE5:jg s ((a:Int)+4)=((jg s ((a:Int)+4)).toNat:Nat):=Aaa
  have hE6:a < (jg s ((a:Int)+4)).toNat:=Aaa
  have hE7:(jg s ((a:Int)+4)).toNat<=s.size:=Aaa
  rw [hf1,hf2,<-hoc] at hN1;have iJ:=Hq hN1;have hd0:¬(((jg s ((a:Int)+4)).toNat:Nat):Int) < 0:=Aaa
  rw [hE5] at Ih;clear hspec aak hq hst hN1 hf1 hf2 hf3 hf4 hoc hd hE hE5 hEl;have hd:=aES hd0;generalize (jg s ((a:Int)+4)).toNat=E at *;generalize mX (lu (kN s ((a:Int)+4)))=bW at *;generalize lu (kN s ((a:Int)+4))=nn at *;open aAZ in exact awF
end Go.Proofs.YtbolgdleijjgfaaGreatDoor
