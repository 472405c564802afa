/- Parts. -/
import Derived.Test.YtacgbldlonoaaaaGreatDoorRr20
import Derived.Test.YtacgbldlonoaaaaGreatDoorRr13
namespace Go.Proofs.YtacgbldlonoaaaaGreatDoor
set_option maxHeartbeats 4000000
open Go.RowKit
open Mth
abbrev mY (o:gM):List Value:=[.int .i64 o.K,.int .i64 o.no,.string o.k,.int .i64 o.n,.int .i64 o.m.K,.int .i64 o.m.F,.int .i64 o.m.T,.int .i64 o.m.I,.int .i64 o.m.L,.string o.m.k,.int .i64 o.m.N]
theorem jG (o:gM):(mY o).length=11:=rfl
theorem LX:∀(o:gM),∀u∈mY o,u.oneCell'=true:=by
 intro o u hu;simp only[mY,List.mem_cons,List.not_mem_nil,or_false] at hu;rcases hu with rfl|rfl|rfl|rfl|rfl|rfl|rfl|rfl|rfl|rfl|rfl<;>rfl
theorem wE (l:List gM) (o:gM):GR.flat mY (l++[o])=GR.flat mY l++mY o:=by rw [GR.flat_append,GR.flat_one]
abbrev GD (w:World) (a:Option Addr) (l:List gM):Prop:=GR.At mY 11 w a l
theorem GD.eleven {w:World} {a:Option Addr} {l:List gM} (h:GD w a l) (i:Nat) (hi:i < l.length):∃g off,a=some ⟨g,off,none⟩/\g < w.heap.size/\w.cell? ⟨g,off+i*11,none⟩=some (.int .i64 l[i].K)/\w.cell? ⟨g,off+i*11+1,none⟩=some (.int .i64 l[i].no)/\w.cell? ⟨g,off+i*11+2,none⟩=some (.string l[i].k)/\w.cell? ⟨g,off+i*11+3,none⟩=some (.int .i64 l[i].n)/\w.cell? ⟨g,off+i*11+4,none⟩=some (.int .i64 l[i].m.K)/\w.cell? ⟨g,off+i*11+5,none⟩=some (.int .i64 l[i].m.F)/\w.cell? ⟨g,off+i*11+6,none⟩=some (.int .i64 l[i].m.T)/\w.cell? ⟨g,off+i*11+7,none⟩=some (.int .i64 l[i].m.I)/\w.cell? ⟨g,off+i*11+8,none⟩=some (.int .i64 l[i].m.L)/\w.cell? ⟨g,off+i*11+9,none⟩=some (.string l[i].m.k)/\w.cell? ⟨g,off+i*11+10,none⟩=some (.int .i64 l[i].m.N):=by
 obtain⟨g,off,e,hg,hc⟩:=h i hi;refine⟨g,off,e,hg,?_,?_,?_,?_,?_,?_,?_,?_,?_,?_,?_⟩
 .simpa using hc 0 Aaa
 .simpa [Nat.add_assoc] using hc 1 Aaa
 .simpa [Nat.add_assoc] using hc 2 Aaa
 .simpa [Nat.add_assoc] using hc 3 Aaa
 .simpa [Nat.add_assoc] using hc 4 Aaa
 .simpa [Nat.add_assoc] using hc 5 Aaa
 .simpa [Nat.add_assoc] using hc 6 Aaa
 .simpa [Nat.add_assoc] using hc 7 Aaa
 .simpa [Nat.add_assoc] using hc 8 Aaa
 .simpa [Nat.add_assoc] using hc 9 Aaa
 .simpa [Nat.add_assoc] using hc 10 Aaa
set_option maxRecDepth 100000
theorem YD:(Tryz.prog.info? 34).map (λi=>(i.zero,i.size,i.bytes))=some (some (.agg (bY 0 0 ByteArray.empty 0 0 0 0 0 0 ByteArray.empty 0)),11,104):=Aab
theorem atL {w:World} {c:Nat} {cs:Array Value} {t:TypeId} (h:w.heap[c]?=some (.cells cs t (0,0))) (i:Nat) (v:Value):(w.setCell ⟨c,i,none⟩ v).heap[c]?=some (.cells (cs.setIfInBounds i v) t (0,0)):=by
 exact aaO
theorem aeI {w:World} {g:Nat} {cs:Array Value} {t:TypeId} (h:w.heap[g]?=some (.cells cs t (0,0))) (i:Nat):w.frozen? ⟨g,i,none⟩=false:=by
 unfold World.frozen?;rw [h];simp
theorem Va {w:World} {g:Nat} {v0 v1:Value} {t:TypeId} (h:w.heap[g]?=some (.cells #[v0,v1] t (0,0))):w.cell? ⟨g,0,none⟩=some v0/\w.cell? ⟨g,1,none⟩=some v1:=by
 have hc:∀i,w.cell? ⟨g,i,none⟩=#[v0,v1][i]?:=λi=>cell_of_row w g i _ t (0,0) h
 exact⟨hc 0,hc 1⟩
structure FS (w0 w:World) (fb g:Nat) (s:ByteArray) (v:Value) (L:List gM) (a:Nat):Prop where
 keep:dJ fb w0 w
 blk:w.heap[fb]?=some (.cells #[v,.int .i64 a] 112 (0,0))
 own:w.ownsRow (g+1) 34 11 v L.length (GR.flat mY L)
 by_:BytesAt w g s
 lo:fb < w0.heap.size
 gl:w0.heap.size<=g/\g < w.heap.size
theorem FS.step {w0 w w':World} {fb g:Nat} {s:ByteArray} {v:Value} {L:List gM} {a:Nat} (h:FS w0 w fb g s v L a) (hb:aX w w'):FS w0 w' fb g s v L a:=
 ⟨h.keep.trans (dJ.of_below hb),aI h.blk hb,own_below h.own hb,h.by_.below h.gl.2 hb,h.lo,h.gl.1,Nat.lt_of_lt_of_le h.gl.2 hb.size⟩
theorem FS.app {w0 w w6:World} {fb g:Nat} {s:ByteArray} {v v':Value} {L:List gM} {a:Nat} (h:FS w0 w fb g s v L a) (o:gM)
 (hown:w6.ownsRow (g+1) 34 11 v' (L.length+1) (GR.flat mY L++mY o)) (hg:w.grownBy w6 v.ownBlock):
 w6.heap[fb]?=some (.cells #[v,.int .i64 a] 112 (0,0))/\∀z:Nat,FS w0 ((w6.setCell ⟨fb,0,none⟩ v').setCell ⟨fb,1,none⟩ (.int .i64 z)) fb g s v' (L++[o]) z:=by
 have hlt:∀x,v.ownBlock=some x->g+1<=x:=λx hx=>(h.own.lt x hx).1
 have hgl:=h.gl;have hlo:=h.lo
 have hb:w6.heap[fb]?=some (.cells #[v,.int .i64 a] 112 (0,0)):=by
  rw [hg.block fb (cu h.blk) (λe=>by have:=hlt fb e.symm;omega)];exact h.blk
 have hbg:w6.heap[g]?=w.heap[g]?:=hg.block g hgl.2 (λe=>by have:=hlt g e.symm;omega)
 have h6:dJ fb w0 w6:=⟨hg.os.trans h.keep.os,hg.tape.trans h.keep.tape,hg.output.trans h.keep.output,Nat.le_trans h.keep.size hg.size,λk hk hne=>by
  rw [hg.block k (Nat.lt_of_lt_of_le hk h.keep.size) (λe=>by have:=hlt k e.symm;omega)]
  exact h.keep.block k hk hne⟩
 have hby:BytesAt w6 g s:=λi hi=>(World.cell?_of_block (w:=w) hbg).trans (h.by_ i hi)
 have gr:∀(w1:World) (i:Nat) (u:Value),w1.grownBy (w1.setCell ⟨fb,i,none⟩ u) (some fb):=λw1 i u=>⟨rfl,rfl,rfl,Aao,λk _ hne=>Below.heap_setCell _ _ _ _ (λe=>hne Aan)⟩
 have hne:v'.ownBlock=none\/v'.ownBlock≠some fb:=by
  right
  intro e;have:=(hown.lt fb e).1;omega
 have st:∀(w1:World) (i:Nat) (u:Value),BytesAt w1 g s->BytesAt (w1.setCell ⟨fb,i,none⟩ u) g s:=λw1 i u hw j hj=>(World.cell?_setCell_other _ _ _ _ (by simp<;>omega)).trans (hw j hj)
 refine⟨hb,λz=>⟨(h6.trans (dJ.set _)).trans (dJ.set _),atL (atL hb 0 v') 1 (.int .i64 z),?_,st _ _ _ (st _ _ _ hby),hlo,hgl.1,?_⟩⟩
 .rw [List.length_append,wE];exact(hown.kept (gr _ 0 v') hne).kept (gr _ 1 (.int .i64 z)) hne
 .have:=hg.size;simp[World.setCell];omega
def endOf (w:World) (fb:Nat):Nat:=match w.cell? ⟨fb,1,none⟩ with|some (.int _ z)=>z.toNat|_=>0
theorem FS.endOf {w0 w:World} {fb g:Nat} {s:ByteArray} {v:Value} {L:List gM} {a:Nat} (h:FS w0 w fb g s v L a):endOf w fb=a:=by
 unfold Go.Proofs.YtacgbldlonoaaaaGreatDoor.endOf;rw [(Va h.blk).2];simp
def Found (w w':World) (fb:Nat) (s:ByteArray):Prop:=dJ fb w w'/\∃v,w'.heap[fb]?=some (.cells #[v,.int .i64 (iF s).2] 112 (0,0))/\w'.ownsRow (w.heap.size+1) 34 11 v (iF s).1.length (GR.flat mY (iF s).1)
theorem FS.found {w0 w w':World} {fb:Nat} {s:ByteArray} {v:Value} {L:List gM} {a:Nat} (h:FS w0 w fb w0.heap.size s v L a) (hS:xK s a L) (hs:BN s a=false) (hb:aX w w'):Found w0 w' fb s:=by
 have h2:=h.step hb;refine⟨h2.keep,v,?_,?_⟩
 .rw [Ah hS hs];exact h2.blk
 .rw [Ah hS hs];exact h2.own
theorem Zb {s:ByteArray} {a:Nat} (h:¬PV s a):BN s a=false/\EP s a= -1:=by
 unfold BN EP;rw [decide_eq_false h,if_neg h];exact⟨rfl,rfl⟩
theorem readAll (fb:Nat) (s:ByteArray) (hs:s.size<=60000) (w:World) (hfb:fb < w.heap.size) (hne:fb≠5) (hf:w.heap[fb]?=some (.cells #[.slice none 0 0,.int .i64 0] 112 (0,0))) (hH:Handle w):
 Calls Tryz.prog 72 #[.pointer (some ⟨fb,0,none⟩),.string s] w λe w'=>(e= .returned (.tuple #[])\/∃p,e=Ut p)/\Found w w' fb s:=by
 obtain⟨i0,hi,hz0,hz1,hz2⟩:=info_parts YD;obtain⟨cap,w1,aeK,hcap,hby,hlt1,hbel⟩:=PG s w;have HF1:=Hq (show FS w w1 fb w.heap.size s (.slice none 0 0) [] 0 from⟨dJ.of_below hbel,aI hf hbel,World.ownsRow_nil _ _ _ _,hby,hfb,Nat.le_refl _,hlt1⟩);have HH:=Hq hH;have HS1:=Hq (AU s hs);clear hbel hby hf hH hlt1;go_enter Tryz.func72,Tryz.ntmps72
 go_wp2_with fail;go_loopw [] (λwr=>∃a v L,FS w wr fb w.heap.size s v L a/\xK s a L) (λwr=>s.size - endOf wr fb)
 case atStart=>exact⟨0,_,[],HF1,HS1⟩
 case round=>
  clear HF1 HS1 aeK;obtain⟨a,v,L,hF,hS⟩:=hrel;have hcl:=hF.lo;have hbl:=cu hF.blk;obtain⟨va,vc,hv,_⟩:=GR.own_at (enc:=mY) (sz:=11) (l:=L) jG hF.own;subst hv;obtain⟨c0,c1⟩:=Va hF.blk;have hea:endOf wr fb=a:=hF.endOf;have HF:=Hq hF;have HEA:=Hq hea;have HS:=Hq hS;have ha:=hS.2.1;have HL:=Hq hS.1;clear hF hS hea;by_cases hlt:a < s.size
  case' neg=>
   have hnl:decide ((a:Int) < (s.size:Int))=false:=Aag
   go_wp2_with fail
   exact bodyPost_end (v:= .tuple #[]) (by simp[results,Tryz.results72,go_sem]) rfl ⟨.inl rfl,HF.found HS (OD Aaa) (Below.refl _ _)⟩
  have hlI:(a:Int) < (s.size:Int):=Aaa
  have HFA:=Hq (frameAt s hs a ha w.heap.size cap hcap wr HF.by_ HF.gl.2 (HH.keep1 HF.keep hfb hne));by_cases hfa:PV s a
  case' neg=>
   obtain⟨hst,hE⟩:=Zb hfa
   have HST:=Hq hst
   clear hst
   rw [hE] at HFA
   clear hE hfa
   generalize EC s a=TX at *
   go_wp2_with fail
   refine HFA.mono ?_
   rintro e w2 ⟨rfl,hb2⟩
   obtain⟨d0,d1⟩:=Va (HF.step hb2).blk
   have HB2:=Hq hb2
   clear hb2 c0 c1
   go_wp2_with fail
   exact⟨rfl,.inr ⟨_,rfl⟩,HF.found HS HST HB2⟩
  have HFB:=Hq hfa
  have hE:EP s a=((EP s a).toNat:Nat):=by
   have h1:=hfa.2.1;have:EP s a=a+4+yR (tl s a):=if_pos hfa;omega
  have hE2:(EP s a).toNat<=100000:=by
   have h1:EP s a=a+4+yR (tl s a):=if_pos hfa;have h2:=Qv (iD (tl s a)) 0;have h3:=qW (tl s a);unfold yR at h1;omega
  have hTX:(EC s a).size<=1000:=by
   have h1:EC s a=BP (tl s a):=if_pos hfa;rw [h1];exact DY _ _
  have HO:=Hq (λw1 h=>opIn (EC s a) w1 (Nat.le_trans hTX Aah) h);have HY:=Hq (show j6 (EC s a)=true->BN s a=true from λh=>by unfold BN;rw [decide_eq_true hfa,h];rfl);have HN:=Hq (show j6 (EC s a)=false->BN s a=false from λh=>by unfold BN;rw [h,Bool.and_false]);have gG:=Hq (show BN s a=true->xK s (EP s a).toNat (L++[opC (EC s a)]) from λh=>D8 HS h);have HGT:=Hq (show BN s a=true->a < (EP s a).toNat/\(EP s a).toNat<=s.size from λh=>by obtain⟨_,_,_,h4,h5,_⟩:=rA h;omega);clear hTX hfa HFB;rw [hE] at HFA;clear hE;generalize (EP s a).toNat=z at *;generalize j6 (EC s a)=OK at *;generalize hoc:opC (EC s a)=oc at *;clear hoc;generalize EC s a=TX at *;obtain⟨K,no,k,n,⟨mK,mF,mT,mI,mL,mk,mN⟩⟩:=oc;go_wp2_with fail;refine HFA.mono ?_;rintro e w2 ⟨rfl,hb2⟩;have Z4:=Hq (HF.step hb2);clear hb2 c0 c1 HFA;go_upto_region 5 with fail;refine wp_at (λW hW=>?_);obtain rfl:=hW;have axj:=cu Z4.blk;obtain⟨c0,c1⟩:=Va Z4.blk;have y0:=cell_regrown c0;clear c0 c1;refine jN Aab ?_;show sU _ _ _ _ 12 (Array.replicate 12 false) _ _
  open alv in exact afu
theorem Found.step {w w1 w2:World} {fb:Nat} {s:ByteArray} (h:Found w w1 fb s) (hb:aX w1 w2):Found w w2 fb s:=by
 obtain⟨hk,v,hv,ho⟩:=h;exact⟨hk.trans (dJ.of_below hb),v,aI hv hb,own_below ho hb⟩
theorem Qs {w:World} {B B' size n:Nat} {e:TypeId} {v:Value} {xs:List Value} (h:w.ownsRow B e size v n xs) (hB:B'<=B):w.ownsRow B' e size v n xs:=by
 refine⟨h.1,?_⟩;rcases h.2 with hn|⟨g,cap,cur,rfl,hb,rest⟩
 .exact .inl hn
 .exact .inr ⟨g,cap,cur,rfl,Nat.le_trans hB hb,rest⟩
theorem NC (a fb:Nat) (s:ByteArray) (hs:s.size<=60000) (w:World) (hfb:fb < w.heap.size) (hne:fb≠5) (hf:w.heap[fb]?=some (.cells #[.slice none 0 0,.int .i64 0] 112 (0,0))) (hH:Handle w) (ha:w.cell? ⟨a,0,none⟩=some (.string s)):
 Calls Tryz.prog 71 #[.pointer (some ⟨fb,0,none⟩),.pointer (some ⟨a,0,none⟩)] w λe w'=>(e= .returned (.tuple #[])\/∃p,e=Ut p)/\Found w w' fb s:=by
 have HR:=Hq (readAll fb s hs w hfb hne hf hH);clear hs hf hH;go_enter Tryz.func71,Tryz.ntmps71
 go_wp2_with fail;refine HR.mono ?_;rintro e w1 ⟨hcase,hF⟩;have HF:=Hq hF;clear hF;rcases hcase with rfl|⟨p,rfl⟩
 .go_wp2_with fail;exact bodyPost_end (v:= .tuple #[]) (by simp[results,Tryz.results71,go_sem]) rfl ⟨.inl rfl,HF⟩
 .go_wp2_with fail;exact⟨rfl,.inr ⟨_,rfl⟩,HF⟩
theorem QF (a fb:Nat) (s:ByteArray) (hs:s.size<=60000) (w:World) (hfb:fb < w.heap.size) (hne:fb≠5) (hf:w.heap[fb]?=some (.cells #[.slice none 0 0,.int .i64 0] 112 (0,0))) (hH:Handle w) (ha:w.cell? ⟨a,0,none⟩=some (.string s)):
 Calls Tryz.prog 70 #[.func (.func 71) #[] #[.pointer (some ⟨fb,0,none⟩),.pointer (some ⟨a,0,none⟩)]] w λe w'=>(∃b,e= .returned (.bool b))/\Found w w' fb s:=by
 have HC:=Hq (NC a fb s hs w hfb hne hf hH ha);clear hs hH ha hf;have hdf:∀(fn:Fn) (first cap:Array Value) (w:World),(Instr.makeFunc fn first cap).run Tryz.prog w= .ok (.func fn first cap) w:=λ_ _ _ _=>rfl
 go_enter_defers Tryz.func70,Tryz.ntmps70
 go_wp2_with fail;refine HC.mono ?_;rintro e w1 ⟨hcase,hF⟩;have HF:=Hq hF;clear hF HC;rcases hcase with rfl|⟨p,rfl⟩
 .go_wp2_with fail;refine leaves_cons (f:=143) (args:=#[]) Aac (by simp[go_sem]) ?_;refine(PD _).mono ?_;rintro e u' w'' ⟨rfl,rfl,rfl⟩;simp[Leaves,settle,results,Tryz.results70,go_sem];exact HF
 .go_wp2_with fail;refine leaves_cons (f:=143) (args:=#[]) Aac (by simp[go_sem]) ?_;refine(Tv p [] _).mono ?_;rintro e u' w'' ⟨rfl,rfl,hb⟩;have Z4:=Hq (HF.step hb);clear hb;simp[Leaves,settle,results,Tryz.results70,go_sem];exact Z4
def kZ (w:World) (s:ByteArray) (e:Ending) (w':World):Prop:=∃v,e= .returned (.tuple #[v,.int .i64 (iF s).2])/\w'.ownsRow w.heap.size 34 11 v (iF s).1.length (GR.flat mY (iF s).1)/\aX w w'
theorem kZ.step {w w1 w2:World} {s:ByteArray} {e:Ending} (h:kZ w s e w1) (hb:aX w1 w2):kZ w s e w2:=by
 obtain⟨v,he,ho,hB⟩:=h;exact⟨v,he,own_below ho hb,hB.trans (hb.mono hB.size)⟩
theorem YA (s:ByteArray) (_hs:s.size<=maxLen) (w:World) (hH:Handle w):Calls Tryz.prog 25 #[.string s] w (kZ w s):=by
 by_cases hbig:60000 < s.size
 .have hb1:(60000:Int) < (s.size:Int):=Aaa
  have HP:=Hq (show kZ w s (.returned (.tuple #[.slice none 0 0,.int .i64 0])) (w.alloc (.cells #[.string s] 9)) from by
   have e:iF s=([],0):=by unfold iF;rw [if_neg Aaa]
   refine⟨.slice none 0 0,?_,?_,aj w _⟩
   .rw [e];rfl
   .rw [e];exact World.ownsRow_nil _ _ _ _)
  clear hH;go_enter Tryz.func25,Tryz.ntmps25
  go_wp2_with fail;exact bodyPost_ret (v:= .tuple #[.slice none 0 0,.int .i64 0]) (by simp[results,Tryz.results25,go_sem]) rfl HP
 .have hlt:5 < w.heap.size:=by
   exact adO
  have hb1:¬((60000:Int) < (s.size:Int)):=Aaa
  obtain⟨hA,hF,hB⟩:=iw w (.cells #[.string s] 9) (.cells #[.slice none 0 0,.int .i64 0] 112);have HW:=Hq (QF w.heap.size (w.heap.size+1) s Aaa _ Aac Aaa hF (hH.below hB) (cell_of_row _ w.heap.size 0 _ 9 (0,0) hA));have HB:=Hq hB;have hsz:((w.alloc (.cells #[.string s] 9)).alloc (.cells #[.slice none 0 0,.int .i64 0] 112)).heap.size=w.heap.size+2:=Aac
  clear hA hF hB hH hlt;have hmf:∀(fn:Fn) (first cap:Array Value) (w:World),(Instr.makeFunc fn first cap).run Tryz.prog w= .ok (.func fn first cap) w:=λ_ _ _ _=>rfl
  go_enter Tryz.func25,Tryz.ntmps25
  go_wp2_with fail;refine HW.mono ?_;rintro e w1 ⟨⟨b,rfl⟩,hk,v,hv,ho⟩;rw [hsz] at ho;have HP:=Hq (show kZ w s (.returned (.tuple #[v,.int .i64 (iF s).2])) w1 from⟨v,rfl,Qs ho Aaa,hk.below HB Aaa HB.size⟩);have hwl:=cu hv;obtain⟨c0,c1⟩:=Va hv;clear hv ho hk HW HB
  obtain⟨va,vc,hvv,_⟩:∃a c,v= .slice a (iF s).1.length c/\True:=by
   obtain⟨v2,he,hown,_⟩:=ah HP;simp only[Ending.returned.injEq,Value.tuple.injEq] at he;obtain⟨a2,c2,h2,_⟩:=GR.own_at (enc:=mY) (sz:=11) jG hown;have:v=v2:=by simpa using he
   exact⟨a2,c2,by rw [this,h2],trivial⟩
  subst hvv;generalize (iF s).2=E at *;generalize (iF s).1.length=N at *;go_wp2_with fail;go_quiet (fail);go_wp2_with fail;exact bodyPost_ret (v:= .tuple #[.slice va N vc,.int .i64 E]) (by simp[results,Tryz.results25,go_sem]) rfl (HP.step ⟨rfl,rfl,rfl,Nat.le_refl _,λ_ _=>rfl⟩)
theorem uX {w wr w':World} {s:ByteArray} {v:Value} {L:List gM} {a:Nat} (ho:wr.ownsRow w.heap.size 34 11 v L.length (GR.flat mY L)) (hb:aX w wr) (hS:xK s a L) (hs:BN s a=false) (hz:aX wr w'):kZ w s (.returned (.tuple #[v,.int .i64 a])) w':=by
 have e:=Ah hS hs;exact⟨v,Aan,by rw [e];exact own_below ho hz,hb.trans (hz.mono hb.size)⟩
theorem TG {w wr:World} {s:ByteArray} {v:Value} (ho:wr.ownsRow w.heap.size 34 11 v ([]:List gM).length (GR.flat mY [])) (hb:aX w wr) (h:60000 < s.size):kZ w s (.returned (.tuple #[v,.int .i64 (0:Nat)])) wr:=by
 have e:iF s=([],0):=by unfold iF;rw [if_neg Aaa]
 exact⟨v,Aan,by rw [e];exact ho,hb⟩
theorem ZC (s:ByteArray) (hs:s.size<=maxLen) (w:World):Calls Tryz.prog 69 #[.string s] w (kZ w s):=by
 obtain⟨i0,hi,hz0,hz1,hz2⟩:=info_parts YD;have hs2:s.size<=9223372036854775807:=by unfold maxLen at hs;omega
 have HG:=Hq (λi w1=>Ke s i hs w1);clear hs;go_enter Tryz.func69,Tryz.ntmps69
 go_wp2_with fail;go_loopw [4,5] (λv at_ wr=>∃(a:Nat) (L:List gM),at_= .int .i64 a/\wr.ownsRow w.heap.size 34 11 v L.length (GR.flat mY L)/\aX w wr/\((s.size<=60000/\xK s a L)\/(60000 < s.size/\a=0/\L=[]))) (λ_ at_ _=>s.size - (intOf at_).toNat)
 case atStart=>
  refine⟨0,[],rfl,World.ownsRow_lit _ #[] 0 (Nat.le_refl _) Aae rfl,(Below.refl _ _).alloc (Nat.le_refl _) _,?_⟩;by_cases h:s.size<=60000
  .exact .inl ⟨h,AU s h⟩
  .exact .inr ⟨Aaa,rfl,rfl⟩
 case round=>
  obtain⟨a,L,rfl,hown,hbel,hcase⟩:=hrel;obtain⟨va,vc,rfl,_⟩:=GR.own_at (enc:=mY) (sz:=11) (l:=L) jG hown;have HOWN:=Hq hown;have fO:=Hq hbel;clear hown hbel;rcases hcase with⟨hsm,hS⟩|⟨hbig,rfl,rfl⟩
  case' inr=>
   have hb1:decide ((s.size:Int)<=60000)=false:=Aag
   go_wp2_with fail
   exact bodyPost_ret (v:= .tuple #[.slice va 0 vc,.int .i64 0]) Acm rfl (TG HOWN fO hbig)
  have hb1:decide ((s.size:Int)<=60000)=true:=Aag
  have ha:=hS.2.1;have HS:=Hq hS;clear hS;by_cases h4:a+4 < s.size
  case' neg=>
   have hb2:decide ((4:Int) < (s.size:Int) - (a:Int))=false:=Aag
   have HST:=Hq (OD h4)
   go_wp2_with fail
   exact bodyPost_ret (v:= .tuple #[.slice va L.length vc,.int .i64 a]) Acm rfl (uX HOWN fO HS HST (Below.refl _ _))
  have hb2:decide ((4:Int) < (s.size:Int) - (a:Int))=true:=Aag
  have h4i:(a:Int)+4 < (s.size:Int):=Aaa
  have hw4:IntKind.i64.wrap ((a:Int)+4)=(a:Int)+4:=IntWalk.i64_in _ ⟨Aaa,Aaa⟩;have hw5:0<=(a:Int)+4/\(a:Int)+4<=(s.size:Int):=Aaa
  have hw6:(a:Int)<=(a:Int)+4:=Aaa
  have hw7:((a:Int)+4).toNat=a+4:=Aaa
  have Bh:=Hq (λw1=>HG ((a:Int)+4) w1);have hTX:=DY s ((a:Int)+4);have hEl:=Qv s ((a:Int)+4);have afV:(jc s ((a:Int)+4)).size<=maxLen:=Nat.le_trans hTX Aah;have Ez:=Hq (λw1=>UU (jc s ((a:Int)+4)) afV w1);have HC:=Hq (λw1=>JV (jc s ((a:Int)+4)) w1 afV);have e:(65536*(sums (jc s ((a:Int)+4)).data.toList).2+(sums (jc s ((a:Int)+4)).data.toList).1:Int)=(jA (jc s ((a:Int)+4)):Int):=by unfold jA;omega
  rw [e] at HC;have HW:=Hq (λw1=>l04Word (jA (jc s ((a:Int)+4))) (Ki _) w1);have hspec:=ZI s a h4;have VZ:=Hq (λh:BN s a=true=>(show _/\_ from⟨D8 HS h,rA h⟩));unfold Jd at Ez;have HOC:=Hq (show j6 (jc s ((a:Int)+4))=true->getOp (jc s ((a:Int)+4))=opC (jc s ((a:Int)+4)) from λh=>by unfold getOp;rw [if_pos h]);clear e hTX afV HG;by_cases hE:iO s ((a:Int)+4) < 0
  case' pos=>
   have HST:=Hq (show BN s a=false by rw [hspec,decide_eq_false Aaa];rfl)
   have hd:decide (iO s ((a:Int)+4) < 0)=true:=decide_eq_true hE
   clear hspec VZ HOC
   generalize iO s ((a:Int)+4)=E at *
   generalize kR (jA (jc s ((a:Int)+4)))=bW at *
   generalize jA (jc s ((a:Int)+4))=nn at *
   generalize j6 (jc s ((a:Int)+4))=OK at *
   generalize getOp (jc s ((a:Int)+4))=oc at *
   generalize jc s ((a:Int)+4)=TX at *
   obtain⟨K,no,k,n,⟨mK,mF,mT,mI,mL,mk,mN⟩⟩:=oc
   go_wp2_with fail
   refine(Bh _).mono ?_
   rintro e w1 ⟨rfl,hb1⟩
   have HB1:=Hq hb1
   clear hb1
   go_wp2_with fail
   refine(Ez _).mono ?_
   rintro e w2 ⟨rfl,hb2⟩
   have HB2:=Hq (HB1.trans (hb2.mono HB1.size))
   clear hb2 HB1
   go_upto_region 6 with fail
   refine wp_at (λW hW=>?_)
   have gZ:Hid (aX wr W):=by rw [hW];exact HB2.trans ((aj w2 _).mono HB2.size)
   have HOW:Hid (W.heap[w2.heap.size]?=some (.cells (bY K no k n mK mF mT mI mL mk mN) 34 (0,0))):=Acy
   clear hW HB2
   refine dw Aab ?_
   show gX _ _ _ _ 17 (Array.replicate 17 false) _ _
   refine tk [0,1,2,3,4,5,6,7,8,9,10] ?_
   iterate 11 (refine tY (λK hK=>?_);go_simp;refine hK _ ?_;clear hK K)
   refine iN ?_
   refine dD 11 rfl Aab Aab Aab (λ_ _ _ _ h=>h) (λK hK=>?_)
   go_simp
   first
    |(refine hK _ ?_;clear hK K)
    |(apply Exists.intro
      refine⟨λ_=>?_,hK _ ?_⟩
      ((simp only[hw4];rw [if_pos hw5,if_pos hw6,hw7];exact⟨rfl,rfl⟩))
      clear hK K)
   refine tk [12] ?_
   (refine tY (λK hK=>?_);go_simp;refine hK _ ?_;clear hK K)
   refine iN ?_
   refine dD 13 rfl Aab Aab Aab (λ_ _ _ _ h=>h) (λK hK=>?_)
   go_simp
   first
    |(refine hK _ ?_;clear hK K)
    |(apply Exists.intro
      refine⟨λ_=>?_,hK _ ?_⟩
      ((first|exact(HC _).mono (λe z ⟨he,hz⟩=>⟨he,hz▸Below.refl _ _⟩)|exact HW _))
      clear hK K)
   refine dD 14 rfl Aab Aab Aab (λ_ _ _ _ h=>h) (λK hK=>?_)
   go_simp
   first
    |(refine hK _ ?_;clear hK K)
    |(apply Exists.intro
      refine⟨λ_=>?_,hK _ ?_⟩
      ((first|exact(HC _).mono (λe z ⟨he,hz⟩=>⟨he,hz▸Below.refl _ _⟩)|exact HW _))
      clear hK K)
   refine tk [15,16] ?_
   iterate 2 (refine tY (λK hK=>?_);go_simp;refine hK _ ?_;clear hK K)
   refine iN ?_
   refine eX Aab (λz hz=>?_)
   have nG:=Hq (gZ.trans (hz.mono gZ.size))
   clear hz gZ HOW
   go_simp
   go_wp2_with fail
   exact bodyPost_ret (v:= .tuple #[.slice va L.length vc,.int .i64 a]) Acm rfl (uX HOWN fO HS HST nG)
  have hd:decide (iO s ((a:Int)+4) < 0)=false:=decide_eq_false hE;have hd2:decide (0<=iO s ((a:Int)+4))=true:=decide_eq_true Aaa;rw [hd2,Bool.true_and] at hspec;clear hd2;cases hok:j6 (jc s ((a:Int)+4))
  case' false=>
   have HST:=Hq (show BN s a=false by rw [hspec,hok];rfl)
   rw [hok] at Ez
   clear hspec VZ HOC hok
   generalize iO s ((a:Int)+4)=E at *
   generalize kR (jA (jc s ((a:Int)+4)))=bW at *
   generalize jA (jc s ((a:Int)+4))=nn at *
   generalize getOp (jc s ((a:Int)+4))=oc at *
   generalize jc s ((a:Int)+4)=TX at *
   obtain⟨K,no,k,n,⟨mK,mF,mT,mI,mL,mk,mN⟩⟩:=oc
   go_wp2_with fail
   refine(Bh _).mono ?_
   rintro e w1 ⟨rfl,hb1⟩
   have HB1:=Hq hb1
   clear hb1
   go_wp2_with fail
   refine(Ez _).mono ?_
   rintro e w2 ⟨rfl,hb2⟩
   have HB2:=Hq (HB1.trans (hb2.mono HB1.size))
   clear hb2 HB1
   go_upto_region 6 with fail
   refine wp_at (λW hW=>?_)
   have gZ:Hid (aX wr W):=by rw [hW];exact HB2.trans ((aj w2 _).mono HB2.size)
   have HOW:Hid (W.heap[w2.heap.size]?=some (.cells (bY K no k n mK mF mT mI mL mk mN) 34 (0,0))):=Acy
   clear hW HB2
   refine dw Aab ?_
   show gX _ _ _ _ 17 (Array.replicate 17 false) _ _
   refine tk [0,1,2,3,4,5,6,7,8,9,10] ?_
   iterate 11 (refine tY (λK hK=>?_);go_simp;refine hK _ ?_;clear hK K)
   refine iN ?_
   refine dD 11 rfl Aab Aab Aab (λ_ _ _ _ h=>h) (λK hK=>?_)
   go_simp
   first
    |(refine hK _ ?_;clear hK K)
    |(apply Exists.intro
      refine⟨λ_=>?_,hK _ ?_⟩
      ((simp only[hw4];rw [if_pos hw5,if_pos hw6,hw7];exact⟨rfl,rfl⟩))
      clear hK K)
   refine tk [12] ?_
   (refine tY (λK hK=>?_);go_simp;refine hK _ ?_;clear hK K)
   refine iN ?_
   refine dD 13 rfl Aab Aab Aab (λ_ _ _ _ h=>h) (λK hK=>?_)
   go_simp
   first
    |(refine hK _ ?_;clear hK K)
    |(apply Exists.intro
      refine⟨λ_=>?_,hK _ ?_⟩
      ((first|exact(HC _).mono (λe z ⟨he,hz⟩=>⟨he,hz▸Below.refl _ _⟩)|exact HW _))
      clear hK K)
   refine dD 14 rfl Aab Aab Aab (λ_ _ _ _ h=>h) (λK hK=>?_)
   go_simp
   first
    |(refine hK _ ?_;clear hK K)
    |(apply Exists.intro
      refine⟨λ_=>?_,hK _ ?_⟩
      ((first|exact(HC _).mono (λe z ⟨he,hz⟩=>⟨he,hz▸Below.refl _ _⟩)|exact HW _))
      clear hK K)
   refine tk [15,16] ?_
   iterate 2 (refine tY (λK hK=>?_);go_simp;refine hK _ ?_;clear hK K)
   refine iN ?_
   refine eX Aab (λz hz=>?_)
   have nG:=Hq (gZ.trans (hz.mono gZ.size))
   clear hz gZ HOW
   go_simp
   go_wp2_with fail
   exact bodyPost_ret (v:= .tuple #[.slice va L.length vc,.int .i64 a]) Acm rfl (uX HOWN fO HS HST nG)
  rw [hok,Bool.true_and] at hspec;rw [hok] at Ez;have hoc:=ah HOC hok;clear HOC hok;by_cases hq:s.extract a (a+4)=kR (jA (jc s ((a:Int)+4)))
  case' neg=>
   have HST:=Hq (show BN s a=false by rw [hspec,decide_eq_false hq])
   have hqq:((s.extract a (a+4)).toList == (kR (jA (jc s ((a:Int)+4)))).toList)=false:=by
    rw [beq_eq_false_iff_ne];intro h;rw [ByteArray.toList_eq,ByteArray.toList_eq] at h;exact hq (ByteArray.ext (Array.ext' h))
   clear hspec VZ hq hoc
   generalize iO s ((a:Int)+4)=E at *
   generalize kR (jA (jc s ((a:Int)+4)))=bW at *
   generalize jA (jc s ((a:Int)+4))=nn at *
   generalize getOp (jc s ((a:Int)+4))=oc at *
   generalize jc s ((a:Int)+4)=TX at *
   obtain⟨K,no,k,n,⟨mK,mF,mT,mI,mL,mk,mN⟩⟩:=oc
   go_wp2_with fail
   refine(Bh _).mono ?_
   rintro e w1 ⟨rfl,hb1⟩
   have HB1:=Hq hb1
   clear hb1
   go_wp2_with fail
   refine(Ez _).mono ?_
   rintro e w2 ⟨rfl,hb2⟩
   have HB2:=Hq (HB1.trans (hb2.mono HB1.size))
   clear hb2 HB1
   go_upto_region 6 with fail
   refine wp_at (λW hW=>?_)
   have gZ:Hid (aX wr W):=by rw [hW];exact HB2.trans ((aj w2 _).mono HB2.size)
   have HOW:Hid (W.heap[w2.heap.size]?=some (.cells (bY K no k n mK mF mT mI mL mk mN) 34 (0,0))):=Acy
   clear hW HB2
   refine dw Aab ?_
   show gX _ _ _ _ 17 (Array.replicate 17 false) _ _
   refine tk [0,1,2,3,4,5,6,7,8,9,10] ?_
   iterate 11 (refine tY (λK hK=>?_);go_simp;refine hK _ ?_;clear hK K)
   refine iN ?_
   refine dD 11 rfl Aab Aab Aab (λ_ _ _ _ h=>h) (λK hK=>?_)
   go_simp
   first
    |(refine hK _ ?_;clear hK K)
    |(apply Exists.intro
      refine⟨λ_=>?_,hK _ ?_⟩
      ((simp only[hw4];rw [if_pos hw5,if_pos hw6,hw7];exact⟨rfl,rfl⟩))
      clear hK K)
   refine tk [12] ?_
   (refine tY (λK hK=>?_);go_simp;refine hK _ ?_;clear hK K)
   refine iN ?_
   refine dD 13 rfl Aab Aab Aab (λ_ _ _ _ h=>h) (λK hK=>?_)
   go_simp
   first
    |(refine hK _ ?_;clear hK K)
    |(apply Exists.intro
      refine⟨λ_=>?_,hK _ ?_⟩
      ((first|exact(HC _).mono (λe z ⟨he,hz⟩=>⟨he,hz▸Below.refl _ _⟩)|exact HW _))
      clear hK K)
   refine dD 14 rfl Aab Aab Aab (λ_ _ _ _ h=>h) (λK hK=>?_)
   go_simp
   first
    |(refine hK _ ?_;clear hK K)
    |(apply Exists.intro
      refine⟨λ_=>?_,hK _ ?_⟩
      ((first|exact(HC _).mono (λe z ⟨he,hz⟩=>⟨he,hz▸Below.refl _ _⟩)|exact HW _))
      clear hK K)
   refine tk [15,16] ?_
   iterate 2 (refine tY (λK hK=>?_);go_simp;refine hK _ ?_;clear hK K)
   refine iN ?_
   refine eX Aab (λz hz=>?_)
   have nG:=Hq (gZ.trans (hz.mono gZ.size))
   clear hz gZ HOW
   go_simp
   go_wp2_with fail
   exact bodyPost_ret (v:= .tuple #[.slice va L.length vc,.int .i64 a]) Acm rfl (uX HOWN fO HS HST nG)
  have hqq:((s.extract a (a+4)).toList == (kR (jA (jc s ((a:Int)+4)))).toList)=true:=by rw [hq];simp
  have hst:BN s a=true:=by rw [hspec,decide_eq_true hq]
  obtain⟨hN1,_,hf1,hf2,hf3,hf4,_⟩:=ah VZ hst;have hE5:iO s ((a:Int)+4)=((iO s ((a:Int)+4)).toNat:Nat):=Aaa
  have hE6:a < (iO s ((a:Int)+4)).toNat:=Aaa
  have hE7:(iO s ((a:Int)+4)).toNat<=s.size:=Aaa
  rw [hf1,hf2,<-hoc] at hN1;have gG:=Hq hN1;have hd0:¬(((iO s ((a:Int)+4)).toNat:Nat):Int) < 0:=Aaa
  rw [hE5] at Bh;clear hspec VZ hq hst hN1 hf1 hf2 hf3 hf4 hoc hd hE hE5 hEl;have hd:=decide_eq_false hd0;generalize (iO s ((a:Int)+4)).toNat=E at *;generalize kR (jA (jc s ((a:Int)+4)))=bW at *;generalize jA (jc s ((a:Int)+4))=nn at *;generalize getOp (jc s ((a:Int)+4))=oc at *;generalize jc s ((a:Int)+4)=TX at *;obtain⟨K,no,k,n,⟨mK,mF,mT,mI,mL,mk,mN⟩⟩:=oc;go_wp2_with fail;refine(Bh _).mono ?_;rintro e w1 ⟨rfl,hb1⟩;have HB1:=Hq hb1;clear hb1;go_wp2_with fail;refine(Ez _).mono ?_;rintro e w2 ⟨rfl,hb2⟩;have HB2:=Hq (HB1.trans (hb2.mono HB1.size));clear hb2 HB1;go_upto_region 6 with fail;refine wp_at (λW hW=>?_);have gZ:Hid (aX wr W):=by rw [hW];exact HB2.trans ((aj w2 _).mono HB2.size)
  have HOW:Hid (W.heap[w2.heap.size]?=some (.cells (bY K no k n mK mF mT mI mL mk mN) 34 (0,0))):=Acy
  clear hW HB2;refine dw Aab ?_;show gX _ _ _ _ 17 (Array.replicate 17 false) _ _
  refine tk [0,1,2,3,4,5,6,7,8,9,10] ?_;iterate 11 (refine tY (λK hK=>?_);go_simp;refine hK _ ?_;clear hK K)
  refine iN ?_;refine dD 11 rfl Aab Aab Aab (λ_ _ _ _ h=>h) (λK hK=>?_);go_simp
  first
   |(refine hK _ ?_;clear hK K)
   |(apply Exists.intro
     refine⟨λ_=>?_,hK _ ?_⟩
     ((simp only[hw4];rw [if_pos hw5,if_pos hw6,hw7];exact⟨rfl,rfl⟩))
     clear hK K)
  refine tk [12] ?_;(refine tY (λK hK=>?_);go_simp;refine hK _ ?_;clear hK K)
  refine iN ?_;refine dD 13 rfl Aab Aab Aab (λ_ _ _ _ h=>h) (λK hK=>?_);go_simp
  first
   |(refine hK _ ?_;clear hK K)
   |(apply Exists.intro
     refine⟨λ_=>?_,hK _ ?_⟩
     ((first|exact(HC _).mono (λe z ⟨he,hz⟩=>⟨he,hz▸Below.refl _ _⟩)|exact HW _))
     clear hK K)
  refine dD 14 rfl Aab Aab Aab (λ_ _ _ _ h=>h) (λK hK=>?_);go_simp
  first
   |(refine hK _ ?_;clear hK K)
   |(apply Exists.intro
     refine⟨λ_=>?_,hK _ ?_⟩
     ((first|exact(HC _).mono (λe z ⟨he,hz⟩=>⟨he,hz▸Below.refl _ _⟩)|exact HW _))
     clear hK K)
  refine tk [15,16] ?_;open apg in exact WW
end Go.Proofs.YtacgbldlonoaaaaGreatDoor
