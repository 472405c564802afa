/- Parts. -/
import Derived.Test.YtfachhcijcjbpaaGreatDoorRw15
import Derived.Test.YtfachhcijcjbpaaGreatDoorRw16
namespace Go.Proofs.YtfachhcijcjbpaaGreatDoor
open Go.Proofs.Tryz
set_option maxHeartbeats 4000000
open Go.RowKit
open Mth
variable {w w0 w' w1 w2 wr:World} {s:ByteArray} {v:Value} {a g fb:Nat} {L:List gD} {t:TypeId} {cs:Array Value}
abbrev nQ (o:gD):List Value:=[.int .i64 o.K,.int .i64 o.no,.string o.k,.int .i64 o.n,.int .i64 o.m.K,.int .i64 o.m.F,.int .i64 o.m.T,.int .i64 o.m.I,.int .i64 o.m.L,.string o.m.k,.int .i64 o.m.N]
theorem jO (o:gD):(nQ o).length=11:=rfl
theorem PU:∀(o:gD),∀u∈nQ o,u.oneCell'=true:=by
 intro o u hu;simp only[nQ,aET,aFt,or_false] at hu;rcases hu with rfl|rfl|rfl|rfl|rfl|rfl|rfl|rfl|rfl|rfl|rfl<;>rfl
theorem yG (l:List gD) (o:gD):GR.flat nQ (l++[o])=GR.flat nQ l++nQ o:=by rw [GR.flat_append,GR.flat_one]
abbrev JX (w:World) (a:Option Addr) (l:List gD):Prop:=GR.At nQ 11 w a l
theorem JX.eleven {a:Option Addr} {l:List gD} (h:JX w a l) (i:Nat) (hi:i < l.length):∃g off,a=some ⟨g,off,none⟩/\g < w.heap.size/\w.cell? ⟨g,off+i*11,none⟩=some (.int .i64 l[i].K)/\w.cell? ⟨g,off+i*11+1,none⟩=some (.int .i64 l[i].no)/\w.cell? ⟨g,off+i*11+2,none⟩=some (.string l[i].k)/\w.cell? ⟨g,off+i*11+3,none⟩=some (.int .i64 l[i].n)/\w.cell? ⟨g,off+i*11+4,none⟩=some (.int .i64 l[i].m.K)/\w.cell? ⟨g,off+i*11+5,none⟩=some (.int .i64 l[i].m.F)/\w.cell? ⟨g,off+i*11+6,none⟩=some (.int .i64 l[i].m.T)/\w.cell? ⟨g,off+i*11+7,none⟩=some (.int .i64 l[i].m.I)/\w.cell? ⟨g,off+i*11+8,none⟩=some (.int .i64 l[i].m.L)/\w.cell? ⟨g,off+i*11+9,none⟩=some (.string l[i].m.k)/\w.cell? ⟨g,off+i*11+10,none⟩=some (.int .i64 l[i].m.N):=by
 obtain⟨g,off,e,hg,hc⟩:=h i hi;refine⟨g,off,e,hg,?_,?_,?_,?_,?_,?_,?_,?_,?_,?_,?_⟩
 .simpa using hc 0 Aaa
 .exact JZ
 .exact Pm
 .exact Pn
 .exact WI
 .exact WJ
 .exact WL
 .simpa [aE5] using hc 7 Aaa
 .simpa [aE5] using hc 8 Aaa
 .simpa [aE5] using hc 9 Aaa
 .exact abn
set_option maxRecDepth 100000
theorem acB:(prog.info? 106).map (λi=>(i.zero,i.size,i.bytes))=some (some (.agg (bE 0 0 ByteArray.empty 0 0 0 0 0 0 ByteArray.empty 0)),11,104):=Aab
theorem azp {c:Nat} (h:w.heap[c]?=some (.cells cs t (0,0))) (i:Nat) (v:Value):(w.setCell ⟨c,i,none⟩ v).heap[c]?=some (.cells (cs.setIfInBounds i v) t (0,0)):=by
 exact Wx
theorem ajg (h:w.heap[g]?=some (.cells cs t (0,0))) (i:Nat):w.frozen? ⟨g,i,none⟩=false:=by
 unfold World.frozen?;rw [h];simp
theorem ZW {v0 v1:Value} (h:w.heap[g]?=some (.cells #[v0,v1] t (0,0))):w.cell? ⟨g,0,none⟩=some v0/\w.cell? ⟨g,1,none⟩=some v1:=by
 have hc:∀i,w.cell? ⟨g,i,none⟩=#[v0,v1][i]?:=λi=>aEz w g i _ t (0,0) h
 exact⟨hc 0,hc 1⟩
structure FS (w0 w:World) (fb g:Nat) (s:ByteArray) (v:Value) (L:List gD) (a:Nat):Prop where
 keep:dD fb w0 w
 blk:w.heap[fb]?=some (.cells #[v,.int .i64 a] 249 (0,0))
 own:w.ownsRow (g+1) 106 11 v L.length (GR.flat nQ L)
 by_:BytesAt w g s
 lo:fb < w0.heap.size
 gl:w0.heap.size<=g/\g < w.heap.size
theorem FS.step (h:FS w0 w fb g s v L a) (hb:aG w w'):FS w0 w' fb g s v L a:=
 ⟨h.keep.trans (dD.of_below hb),aI h.blk hb,own_below h.own hb,h.by_.below h.gl.2 hb,h.lo,h.gl.1,aEH h.gl.2 hb.size⟩
theorem FS.app {w6:World} {v':Value} (h:FS w0 w fb g s v L a) (o:gD) (hown:w6.ownsRow (g+1) 106 11 v' (L.length+1) (GR.flat nQ L++nQ o)) (hg:w.grownBy w6 v.ownBlock):
 w6.heap[fb]?=some (.cells #[v,.int .i64 a] 249 (0,0))/\∀z:Nat,FS w0 ((w6.setCell ⟨fb,0,none⟩ v').setCell ⟨fb,1,none⟩ (.int .i64 z)) fb g s v' (L++[o]) z:=by
 have hlt:∀x,v.ownBlock=some x->g+1<=x:=λx hx=>(h.own.lt x hx).1
 have hgl:=h.gl;have hlo:=h.lo
 have hb:w6.heap[fb]?=some (.cells #[v,.int .i64 a] 249 (0,0)):=by
  rw [hg.block fb (cu h.blk) (λe=>by have:=hlt fb e.symm;omega)];exact h.blk
 have hbg:w6.heap[g]?=w.heap[g]?:=hg.block g hgl.2 (λe=>by have:=hlt g e.symm;omega)
 have h6:dD fb w0 w6:=⟨hg.os.trans h.keep.os,hg.tape.trans h.keep.tape,hg.output.trans h.keep.output,aEA h.keep.size hg.size,λk hk hne=>by
  rw [hg.block k (aEH hk h.keep.size) (λe=>by have:=hlt k e.symm;omega)]
  exact h.keep.block k hk hne⟩
 have hby:BytesAt w6 g s:=λi hi=>(aE6 (w:=w) hbg).trans (h.by_ i hi)
 have gr:∀(w1:World) (i:Nat) (u:Value),w1.grownBy (w1.setCell ⟨fb,i,none⟩ u) (some fb):=λw1 i u=>⟨rfl,rfl,rfl,Aaq,λk _ hne=>aEU _ _ _ _ (λe=>hne Aao)⟩
 have hne:v'.ownBlock=none\/v'.ownBlock≠some fb:=by
  right
  intro e;have:=(hown.lt fb e).1;omega
 have st:∀(w1:World) (i:Nat) (u:Value),BytesAt w1 g s->BytesAt (w1.setCell ⟨fb,i,none⟩ u) g s:=λw1 i u hw j hj=>(aGc _ _ _ _ (by simp<;>omega)).trans (hw j hj)
 refine⟨hb,λz=>⟨(h6.trans (dD.set _)).trans (dD.set _),azp (azp hb 0 v') 1 (.int .i64 z),?_,st _ _ _ (st _ _ _ hby),hlo,hgl.1,?_⟩⟩
 .rw [aEC,yG];exact(hown.kept (gr _ 0 v') hne).kept (gr _ 1 (.int .i64 z)) hne
 .have:=hg.size;simp[World.setCell];omega
def endOf (w:World) (fb:Nat):Nat:=match w.cell? ⟨fb,1,none⟩ with|some (.int _ z)=>z.toNat|_=>0
theorem FS.endOf (h:FS w0 w fb g s v L a):endOf w fb=a:=by
 unfold Go.Proofs.YtfachhcijcjbpaaGreatDoor.endOf;rw [(ZW h.blk).2];simp
def Found (w w':World) (fb:Nat) (s:ByteArray):Prop:=dD fb w w'/\∃v,w'.heap[fb]?=some (.cells #[v,.int .i64 (fT s).2] 249 (0,0))/\w'.ownsRow (w.heap.size+1) 106 11 v (fT s).1.length (GR.flat nQ (fT s).1)
theorem FS.found (h:FS w0 w fb w0.heap.size s v L a) (hS:zI s a L) (hs:Eb s a=false) (hb:aG w w'):Found w0 w' fb s:=by
 have h2:=h.step hb;refine⟨h2.keep,v,?_,?_⟩
 .rw [Cz hS hs];exact h2.blk
 .rw [Cz hS hs];exact h2.own
theorem ac6 (h:¬WV s a):Eb s a=false/\IV s a= -1:=by
 unfold Eb IV;rw [aEw h,aEG h];exact⟨rfl,rfl⟩
theorem readAll (fb:Nat) (s:ByteArray) (hs:s.size<=60000) (w:World) (hfb:fb < w.heap.size) (hne:fb≠0) (hf:w.heap[fb]?=some (.cells #[.slice none 0 0,.int .i64 0] 249 (0,0))) (hH:Handle w):
 Calls prog 185 #[.pointer (some ⟨fb,0,none⟩),.string s] w λe w'=>(e= .returned (.tuple #[])\/∃p,e=Y7 p)/\Found w w' fb s:=by
 obtain⟨i0,hi,hz0,hz1,hz2⟩:=aEY acB;obtain⟨cap,w1,aji,hcap,hby,hlt1,hbel⟩:=Ua s w;have HF1:=Hq (show FS w w1 fb w.heap.size s (.slice none 0 0) [] 0 from⟨dD.of_below hbel,aI hf hbel,World.ownsRow_nil _ _ _ _,hby,hfb,aEx _,hlt1⟩);have HH:=Hq hH;have zC:=Hq (Di s hs);clear hbel hby hf hH hlt1;go_in
 go_wp2_with fail;go_loopw [] (λwr=>∃a v L,FS w wr fb w.heap.size s v L a/\zI s a L) (λwr=>s.size - endOf wr fb)
 case atStart=>exact⟨0,_,[],HF1,zC⟩
 case round=>
  clear HF1 zC aji;obtain⟨a,v,L,hF,hS⟩:=hrel;have hcl:=hF.lo;have hbl:=cu hF.blk;obtain⟨va,vc,hv,_⟩:=GR.own_at (enc:=nQ) (sz:=11) (l:=L) jO hF.own;subst hv;obtain⟨c0,c1⟩:=ZW hF.blk;have hea:endOf wr fb=a:=hF.endOf;have HF:=Hq hF;have HEA:=Hq hea;have HS:=Hq hS;have ha:=hS.2.1;have HL:=Hq hS.1;clear hF hS hea;by_cases hlt:a < s.size
  case' neg=>
   have hnl:decide ((a:Int) < (s.size:Int))=false:=Aae
   go_wp2_with fail;exact aGk (v:= .tuple #[]) (by simp[results,results185,go_sem]) rfl ⟨.inl rfl,HF.found HS (R7 Aaa) (aEK _ _)⟩
  have hlI:(a:Int) < (s.size:Int):=Aaa
  have HFA:=Hq (aff s hs a ha w.heap.size cap hcap wr HF.by_ HF.gl.2 (HH.keep1 HF.keep hfb hne));by_cases hfa:WV s a
  case' neg=>
   obtain⟨hst,hE⟩:=ac6 hfa;have HST:=Hq hst;clear hst;rw [hE] at HFA;clear hE hfa;generalize Il s a=TX at *;go_wp2_with fail;refine HFA.mono ?_;rintro e w2 ⟨rfl,hb2⟩;obtain⟨d0,d1⟩:=ZW (HF.step hb2).blk;have HB2:=Hq hb2;clear hb2 c0 c1;go_wp2_with fail;exact⟨rfl,.inr ⟨_,rfl⟩,HF.found HS HST HB2⟩
  have HFB:=Hq hfa
  have hE:IV s a=((IV s a).toNat:Nat):=by
   have h1:=hfa.2.1;have:IV s a=a+4+Bj (tl s a):=aER hfa;omega
  have hE2:(IV s a).toNat<=100000:=by
   have h1:IV s a=a+4+Bj (tl s a):=aER hfa;have h2:=Vd (iB (tl s a)) 0;have h3:=tq (tl s a);unfold Bj at h1;omega
  have hTX:(Il s a).size<=1000:=by
   have h1:Il s a=Ec (tl s a):=aER hfa;rw [h1];exact Gj _ _
  have HO:=Hq (λw1 h=>aCQ (Il s a) w1 (aEA hTX Aai) h);have HY:=Hq (show kN (Il s a)=true->Eb s a=true from λh=>by unfold Eb;rw [aEy hfa,h];rfl);have HN:=Hq (show kN (Il s a)=false->Eb s a=false from λh=>by unfold Eb;rw [h,Bool.and_false]);have gu:=Hq (show Eb s a=true->zI s (IV s a).toNat (L++[opC (Il s a)]) from λh=>Gw HS h);have HGT:=Hq (show Eb s a=true->a < (IV s a).toNat/\(IV s a).toNat<=s.size from λh=>by obtain⟨_,_,_,h4,h5,_⟩:=tK h;omega);clear hTX hfa HFB;rw [hE] at HFA;clear hE;generalize (IV s a).toNat=z at *;generalize kN (Il s a)=OK at *;generalize hoc:opC (Il s a)=oc at *;clear hoc;generalize Il s a=TX at *;obtain⟨K,no,k,n,⟨mK,mF,mT,mI,mL,mk,mN⟩⟩:=oc;go_wp2_with fail;refine HFA.mono ?_;rintro e w2 ⟨rfl,hb2⟩;have HF2:=Hq (HF.step hb2);clear hb2 c0 c1 HFA;go_upto_region 5 with fail;refine wp_at (λW hW=>?_);obtain rfl:=hW;have aDu:=cu HF2.blk;obtain⟨c0,c1⟩:=ZW HF2.blk;have y0:=aEv c0;clear c0 c1;refine l7 Aab ?_;show wH _ _ _ _ 12 (Array.replicate 12 false) _ _
  open aqH in exact akd
theorem Found.step (h:Found w w1 fb s) (hb:aG w1 w2):Found w w2 fb s:=by
 obtain⟨hk,v,hv,ho⟩:=h;exact⟨hk.trans (dD.of_below hb),v,aI hv hb,own_below ho hb⟩
theorem U9 {B B' size n:Nat} {e:TypeId} {xs:List Value} (h:w.ownsRow B e size v n xs) (hB:B'<=B):w.ownsRow B' e size v n xs:=by
 refine⟨h.1,?_⟩;rcases h.2 with hn|⟨g,cap,cur,rfl,hb,rest⟩
 .exact .inl hn
 .exact .inr ⟨g,cap,cur,rfl,aEA hB hb,rest⟩
theorem Q9 (a fb:Nat) (s:ByteArray) (hs:s.size<=60000) (w:World) (hfb:fb < w.heap.size) (hne:fb≠0) (hf:w.heap[fb]?=some (.cells #[.slice none 0 0,.int .i64 0] 249 (0,0))) (hH:Handle w) (ha:w.cell? ⟨a,0,none⟩=some (.string s)):
 Calls prog 184 #[.pointer (some ⟨fb,0,none⟩),.pointer (some ⟨a,0,none⟩)] w λe w'=>(e= .returned (.tuple #[])\/∃p,e=Y7 p)/\Found w w' fb s:=by
 have HR:=Hq (readAll fb s hs w hfb hne hf hH);clear hs hf hH;go_in
 go_wp2_with fail;refine HR.mono ?_;rintro e w1 ⟨hcase,hF⟩;have HF:=Hq hF;clear hF;rcases hcase with rfl|⟨p,rfl⟩
 .go_wp2_with fail;exact aGk (v:= .tuple #[]) (by simp[results,results184,go_sem]) rfl ⟨.inl rfl,HF⟩
 .go_wp2_with fail;exact⟨rfl,.inr ⟨_,rfl⟩,HF⟩
theorem Vv (a fb:Nat) (s:ByteArray) (hs:s.size<=60000) (w:World) (hfb:fb < w.heap.size) (hne:fb≠0) (hf:w.heap[fb]?=some (.cells #[.slice none 0 0,.int .i64 0] 249 (0,0))) (hH:Handle w) (ha:w.cell? ⟨a,0,none⟩=some (.string s)):
 Calls prog 183 #[.func (.func 184) #[] #[.pointer (some ⟨fb,0,none⟩),.pointer (some ⟨a,0,none⟩)]] w λe w'=>(∃b,e= .returned (.bool b))/\Found w w' fb s:=by
 have HC:=Hq (Q9 a fb s hs w hfb hne hf hH ha);clear hs hH ha hf;have hdf:∀(fn:Fn) (first cap:Array Value) (w:World),(Instr.makeFunc fn first cap).run prog w= .ok (.func fn first cap) w:=λ_ _ _ _=>rfl
 go_enter_defers func183,ntmps183
 go_wp2_with fail;refine HC.mono ?_;rintro e w1 ⟨hcase,hF⟩;have HF:=Hq hF;clear hF HC;rcases hcase with rfl|⟨p,rfl⟩
 .go_wp2_with fail;refine leaves_cons (f:=199) (args:=#[]) Aac (by simp[go_sem]) ?_;refine(TW _).mono ?_;rintro e u' w'' ⟨rfl,rfl,rfl⟩;simp[Leaves,settle,results,results183,go_sem];exact HF
 .go_wp2_with fail;refine leaves_cons (f:=199) (args:=#[]) Aac (by simp[go_sem]) ?_;refine(Yb p [] _).mono ?_;rintro e u' w'' ⟨rfl,rfl,hb⟩;have HF2:=Hq (HF.step hb);clear hb;simp[Leaves,settle,results,results183,go_sem];exact HF2
def kZ (w:World) (s:ByteArray) (e:Ending) (w':World):Prop:=∃v,e= .returned (.tuple #[v,.int .i64 (fT s).2])/\w'.ownsRow w.heap.size 106 11 v (fT s).1.length (GR.flat nQ (fT s).1)/\aG w w'
theorem kZ.step {e:Ending} (h:kZ w s e w1) (hb:aG w1 w2):kZ w s e w2:=by
 obtain⟨v,he,ho,hB⟩:=h;exact⟨v,he,own_below ho hb,hB.trans (hb.mono hB.size)⟩
theorem acz (s:ByteArray) (_hs:s.size<=maxLen) (w:World) (hH:Handle w):Calls prog 160 #[.string s] w (kZ w s):=by
 by_cases hbig:60000 < s.size
 .have hb1:(60000:Int) < (s.size:Int):=Aaa
  have HP:=Hq (show kZ w s (.returned (.tuple #[.slice none 0 0,.int .i64 0])) (w.alloc (.cells #[.string s] 9)) from by
   have e:fT s=([],0):=by unfold fT;rw [aEG Aaa]
   refine⟨.slice none 0 0,?_,?_,au w _⟩
   .rw [e];rfl
   .rw [e];exact World.ownsRow_nil _ _ _ _)
  clear hH;go_in
  go_wp2_with fail;exact aEE (v:= .tuple #[.slice none 0 0,.int .i64 0]) (by simp[results,results160,go_sem]) rfl HP
 .have hlt:0 < w.heap.size:=by
   exact aif
  have hb1:¬((60000:Int) < (s.size:Int)):=Aaa
  obtain⟨hA,hF,hB⟩:=gU w (.cells #[.string s] 9) (.cells #[.slice none 0 0,.int .i64 0] 249);have HW:=Hq (Vv w.heap.size (w.heap.size+1) s Aaa _ Aac Aaa hF (hH.below hB) (aEz _ w.heap.size 0 _ 9 (0,0) hA));have HB:=Hq hB;have hsz:((w.alloc (.cells #[.string s] 9)).alloc (.cells #[.slice none 0 0,.int .i64 0] 249)).heap.size=w.heap.size+2:=Aac
  clear hA hF hB hH hlt;have hmf:∀(fn:Fn) (first cap:Array Value) (w:World),(Instr.makeFunc fn first cap).run prog w= .ok (.func fn first cap) w:=λ_ _ _ _=>rfl
  go_in
  go_wp2_with fail;refine HW.mono ?_;rintro e w1 ⟨⟨b,rfl⟩,hk,v,hv,ho⟩;rw [hsz] at ho;have HP:=Hq (show kZ w s (.returned (.tuple #[v,.int .i64 (fT s).2])) w1 from⟨v,rfl,U9 ho Aaa,hk.below HB Aaa HB.size⟩);have hwl:=cu hv;obtain⟨c0,c1⟩:=ZW hv;clear hv ho hk HW HB
  obtain⟨va,vc,hvv,_⟩:∃a c,v= .slice a (fT s).1.length c/\True:=by
   obtain⟨v2,he,hown,_⟩:=ah HP;simp only[Ending.returned.injEq,Value.tuple.injEq] at he;obtain⟨a2,c2,h2,_⟩:=GR.own_at (enc:=nQ) (sz:=11) jO hown;have:v=v2:=by simpa using he
   exact⟨a2,c2,by rw [this,h2],trivial⟩
  subst hvv;generalize (fT s).2=E at *;generalize (fT s).1.length=N at *;go_wp2_with fail;go_quiet (fail);go_wp2_with fail;exact aEE (v:= .tuple #[.slice va N vc,.int .i64 E]) (by simp[results,results160,go_sem]) rfl (HP.step ⟨rfl,rfl,rfl,aEx _,λ_ _=>rfl⟩)
theorem Kg (ho:wr.ownsRow w.heap.size 106 11 v L.length (GR.flat nQ L)) (hb:aG w wr) (hS:zI s a L) (hs:Eb s a=false) (hz:aG wr w'):kZ w s (.returned (.tuple #[v,.int .i64 a])) w':=by
 have e:=Cz hS hs;exact⟨v,Aao,by rw [e];exact own_below ho hz,hb.trans (hz.mono hb.size)⟩
theorem Yn (ho:wr.ownsRow w.heap.size 106 11 v ([]:List gD).length (GR.flat nQ [])) (hb:aG w wr) (h:60000 < s.size):kZ w s (.returned (.tuple #[v,.int .i64 (0:Nat)])) wr:=by
 have e:fT s=([],0):=by unfold fT;rw [aEG Aaa]
 exact⟨v,Aao,by rw [e];exact ho,hb⟩
theorem RY (s:ByteArray) (hs:s.size<=maxLen) (w:World):Calls prog 35 #[.string s] w (kZ w s):=by
 obtain⟨i0,hi,hz0,hz1,hz2⟩:=aEY acB;have hs2:s.size<=9223372036854775807:=by unfold maxLen at hs;omega
 have HG:=Hq (λi w1=>NV s i hs w1);clear hs;go_in
 go_wp2_with fail;go_loopw [4,5] (λv at_ wr=>∃(a:Nat) (L:List gD),at_= .int .i64 a/\wr.ownsRow w.heap.size 106 11 v L.length (GR.flat nQ L)/\aG w wr/\((s.size<=60000/\zI s a L)\/(60000 < s.size/\a=0/\L=[]))) (λ_ at_ _=>s.size - (intOf at_).toNat)
 case atStart=>
  refine⟨0,[],rfl,aFb _ #[] 0 (aEx _) Aag rfl,(aEK _ _).alloc (aEx _) _,?_⟩;by_cases h:s.size<=60000
  .exact .inl ⟨h,Di s h⟩
  .exact .inr ⟨Aaa,rfl,rfl⟩
 case round=>
  obtain⟨a,L,rfl,hown,hbel,hcase⟩:=hrel;obtain⟨va,vc,rfl,_⟩:=GR.own_at (enc:=nQ) (sz:=11) (l:=L) jO hown;have HOWN:=Hq hown;have aO:=Hq hbel;clear hown hbel;rcases hcase with⟨hsm,hS⟩|⟨hbig,rfl,rfl⟩
  case' inr=>
   have hb1:decide ((s.size:Int)<=60000)=false:=Aae
   go_wp2_with fail;exact aEE (v:= .tuple #[.slice va 0 vc,.int .i64 0]) Ack rfl (Yn HOWN aO hbig)
  have hb1:decide ((s.size:Int)<=60000)=true:=Aae
  have ha:=hS.2.1;have HS:=Hq hS;clear hS;by_cases h4:a+4 < s.size
  case' neg=>
   have hb2:decide ((4:Int) < (s.size:Int) - (a:Int))=false:=Aae
   have HST:=Hq (R7 h4);go_wp2_with fail;exact aEE (v:= .tuple #[.slice va L.length vc,.int .i64 a]) Ack rfl (Kg HOWN aO HS HST (aEK _ _))
  have hb2:decide ((4:Int) < (s.size:Int) - (a:Int))=true:=Aae
  have h4i:(a:Int)+4 < (s.size:Int):=Aaa
  have hw4:IntKind.i64.wrap ((a:Int)+4)=(a:Int)+4:=IntWalk.i64_in _ ⟨Aaa,Aaa⟩;have hw5:0<=(a:Int)+4/\(a:Int)+4<=(s.size:Int):=Aaa
  have hw6:(a:Int)<=(a:Int)+4:=Aaa
  have hw7:((a:Int)+4).toNat=a+4:=Aaa
  have Ie:=Hq (λw1=>HG ((a:Int)+4) w1);have hTX:=Gj s ((a:Int)+4);have hEl:=Vd s ((a:Int)+4);have akN:(jU s ((a:Int)+4)).size<=maxLen:=aEA hTX Aai;have ED:=Hq (λw1=>Zy (jU s ((a:Int)+4)) akN w1);have HC:=Hq (λw1=>NA (jU s ((a:Int)+4)) w1 akN);have e:(65536*(sums (jU s ((a:Int)+4)).data.toList).2+(sums (jU s ((a:Int)+4)).data.toList).1:Int)=(kE (jU s ((a:Int)+4)):Int):=by unfold kE;omega
  rw [e] at HC;have HW:=Hq (λw1=>afB (kE (jU s ((a:Int)+4))) (N8 _) w1);have hspec:=adI s a h4;have aaq:=Hq (λh:Eb s a=true=>(show _/\_ from⟨Gw HS h,tK h⟩));unfold Mj at ED;have HOC:=Hq (show kN (jU s ((a:Int)+4))=true->getOp (jU s ((a:Int)+4))=opC (jU s ((a:Int)+4)) from λh=>by unfold getOp;rw [aER h]);clear e hTX akN HG;by_cases hE:iR s ((a:Int)+4) < 0
  case' pos=>
   have HST:=Hq (show Eb s a=false by rw [hspec,aEw Aaa];rfl);have hd:decide (iR s ((a:Int)+4) < 0)=true:=aEy hE;clear hspec aaq HOC;generalize iR s ((a:Int)+4)=E at *;generalize lZ (kE (jU s ((a:Int)+4)))=bW at *;generalize kE (jU s ((a:Int)+4))=nn at *;generalize kN (jU s ((a:Int)+4))=OK at *;exact Zk9
  have hd:decide (iR s ((a:Int)+4) < 0)=false:=aEw hE;have hd2:decide (0<=iR s ((a:Int)+4))=true:=aEy Aaa;rw [hd2,Bool.true_and] at hspec;clear hd2;cases hok:kN (jU s ((a:Int)+4))
  case' false=>
   have HST:=Hq (show Eb s a=false by rw [hspec,hok];rfl);rw [hok] at ED;clear hspec aaq HOC hok;exact ain
  rw [hok,Bool.true_and] at hspec;rw [hok] at ED;have hoc:=ah HOC hok;clear HOC hok;by_cases hq:s.extract a (a+4)=lZ (kE (jU s ((a:Int)+4)))
  case' neg=>
   have HST:=Hq (show Eb s a=false by rw [hspec,aEw hq])
   have hqq:((s.extract a (a+4)).toList == (lZ (kE (jU s ((a:Int)+4)))).toList)=false:=by
    rw [aF3];intro h;rw [aFk,aFk] at h;exact hq (aFP (Array.ext' h))
   clear hspec aaq hq hoc;exact ain
  have hqq:((s.extract a (a+4)).toList == (lZ (kE (jU s ((a:Int)+4)))).toList)=true:=by rw [hq];simp
  have hst:Eb s a=true:=by rw [hspec,aEy hq]
  obtain⟨hN1,_,hf1,hf2,hf3,hf4,_⟩:=ah aaq hst;have hE5:iR s ((a:Int)+4)=((iR s ((a:Int)+4)).toNat:Nat):=Aaa
  have hE6:a < (iR s ((a:Int)+4)).toNat:=Aaa
  have hE7:(iR s ((a:Int)+4)).toNat<=s.size:=Aaa
  rw [hf1,hf2,<-hoc] at hN1;have gu:=Hq hN1;have hd0:¬(((iR s ((a:Int)+4)).toNat:Nat):Int) < 0:=Aaa
  rw [hE5] at Ie;clear hspec aaq hq hst hN1 hf1 hf2 hf3 hf4 hoc hd hE hE5 hEl;have hd:=aEw hd0;generalize (iR s ((a:Int)+4)).toNat=E at *;generalize lZ (kE (jU s ((a:Int)+4)))=bW at *;generalize kE (jU s ((a:Int)+4))=nn at *;open aAA in exact av4
end Go.Proofs.YtfachhcijcjbpaaGreatDoor
