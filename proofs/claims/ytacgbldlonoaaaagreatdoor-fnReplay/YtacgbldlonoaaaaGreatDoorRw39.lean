/- Parts. -/
import Derived.Test.YtacgbldlonoaaaaGreatDoorRw21
import Derived.Test.YtacgbldlonoaaaaGreatDoorRw32
namespace Go.Proofs.YtacgbldlonoaaaaGreatDoor
open Go.Proofs.Tryz
set_option maxHeartbeats 4000000
open Go.RowKit
open Mth
variable {w w0 w' w1 w2 wr:World} {s:ByteArray} {v:Value} {a g fb:Nat} {L:List fP} {t:TypeId} {cs:Array Value}
abbrev nV (o:fP):List Value:=[.int .i64 o.K,.int .i64 o.no,.string o.k,.int .i64 o.n,.int .i64 o.m.K,.int .i64 o.m.F,.int .i64 o.m.T,.int .i64 o.m.I,.int .i64 o.m.L,.string o.m.k,.int .i64 o.m.N]
theorem jh (o:fP):(nV o).length=11:=rfl
theorem O6:∀(o:fP),∀u∈nV o,u.oneCell'=true:=by
 intro o u hu;simp only[nV,List.mem_cons,List.not_mem_nil,or_false] at hu;rcases hu with rfl|rfl|rfl|rfl|rfl|rfl|rfl|rfl|rfl|rfl|rfl<;>rfl
theorem yt (l:List fP) (o:fP):GR.flat nV (l++[o])=GR.flat nV l++nV o:=by rw [GR.flat_append,GR.flat_one]
abbrev CR (w:World) (a:Option Addr) (l:List fP):Prop:=GR.At nV 11 w a l
theorem CR.eleven {a:Option Addr} {l:List fP} (h:CR w a l) (i:Nat) (hi:i < l.length):∃g off,a=some ⟨g,off,none⟩/\g < w.heap.size/\w.cell? ⟨g,off+i*11,none⟩=some (.int .i64 l[i].K)/\w.cell? ⟨g,off+i*11+1,none⟩=some (.int .i64 l[i].no)/\w.cell? ⟨g,off+i*11+2,none⟩=some (.string l[i].k)/\w.cell? ⟨g,off+i*11+3,none⟩=some (.int .i64 l[i].n)/\w.cell? ⟨g,off+i*11+4,none⟩=some (.int .i64 l[i].m.K)/\w.cell? ⟨g,off+i*11+5,none⟩=some (.int .i64 l[i].m.F)/\w.cell? ⟨g,off+i*11+6,none⟩=some (.int .i64 l[i].m.T)/\w.cell? ⟨g,off+i*11+7,none⟩=some (.int .i64 l[i].m.I)/\w.cell? ⟨g,off+i*11+8,none⟩=some (.int .i64 l[i].m.L)/\w.cell? ⟨g,off+i*11+9,none⟩=some (.string l[i].m.k)/\w.cell? ⟨g,off+i*11+10,none⟩=some (.int .i64 l[i].m.N):=by
 obtain⟨g,off,e,hg,hc⟩:=h i hi;refine⟨g,off,e,hg,?_,?_,?_,?_,?_,?_,?_,?_,?_,?_,?_⟩
 .simpa using hc 0 Aaa
 .simpa [Nat.add_assoc] using hc 1 Aaa
 .simpa [Nat.add_assoc] using hc 2 Aaa
 .simpa [Nat.add_assoc] using hc 3 Aaa
 .simpa [Nat.add_assoc] using hc 4 Aaa
 .simpa [Nat.add_assoc] using hc 5 Aaa
 .simpa [Nat.add_assoc] using hc 6 Aaa
 .simpa [Nat.add_assoc] using hc 7 Aaa
 .simpa [Nat.add_assoc] using hc 8 Aaa
 .simpa [Nat.add_assoc] using hc 9 Aaa
 .simpa [Nat.add_assoc] using hc 10 Aaa
set_option maxRecDepth 100000
theorem abQ:(prog.info? 34).map (λi=>(i.zero,i.size,i.bytes))=some (some (.agg (cu 0 0 ByteArray.empty 0 0 0 0 0 0 ByteArray.empty 0)),11,104):=Aab
theorem ayw {c:Nat} (h:w.heap[c]?=some (.cells cs t (0,0))) (i:Nat) (v:Value):(w.setCell ⟨c,i,none⟩ v).heap[c]?=some (.cells (cs.setIfInBounds i v) t (0,0)):=by
 exact WG
theorem ah5 (h:w.heap[g]?=some (.cells cs t (0,0))) (i:Nat):w.frozen? ⟨g,i,none⟩=false:=by
 unfold World.frozen?;rw [h];simp
theorem Yz {v0 v1:Value} (h:w.heap[g]?=some (.cells #[v0,v1] t (0,0))):w.cell? ⟨g,0,none⟩=some v0/\w.cell? ⟨g,1,none⟩=some v1:=by
 have hc:∀i,w.cell? ⟨g,i,none⟩=#[v0,v1][i]?:=λi=>cell_of_row w g i _ t (0,0) h
 exact⟨hc 0,hc 1⟩
structure FS (w0 w:World) (fb g:Nat) (s:ByteArray) (v:Value) (L:List fP) (a:Nat):Prop where
 keep:dS fb w0 w
 blk:w.heap[fb]?=some (.cells #[v,.int .i64 a] 112 (0,0))
 own:w.ownsRow (g+1) 34 11 v L.length (GR.flat nV L)
 by_:BytesAt w g s
 lo:fb < w0.heap.size
 gl:w0.heap.size<=g/\g < w.heap.size
theorem FS.step (h:FS w0 w fb g s v L a) (hb:aY w w'):FS w0 w' fb g s v L a:=
 ⟨h.keep.trans (dS.of_below hb),aJ h.blk hb,own_below h.own hb,h.by_.below h.gl.2 hb,h.lo,h.gl.1,Nat.lt_of_lt_of_le h.gl.2 hb.size⟩
theorem FS.app {w6:World} {v':Value} (h:FS w0 w fb g s v L a) (o:fP) (hown:w6.ownsRow (g+1) 34 11 v' (L.length+1) (GR.flat nV L++nV o)) (hg:w.grownBy w6 v.ownBlock):
 w6.heap[fb]?=some (.cells #[v,.int .i64 a] 112 (0,0))/\∀z:Nat,FS w0 ((w6.setCell ⟨fb,0,none⟩ v').setCell ⟨fb,1,none⟩ (.int .i64 z)) fb g s v' (L++[o]) z:=by
 have hlt:∀x,v.ownBlock=some x->g+1<=x:=λx hx=>(h.own.lt x hx).1
 have hgl:=h.gl;have hlo:=h.lo
 have hb:w6.heap[fb]?=some (.cells #[v,.int .i64 a] 112 (0,0)):=by
  rw [hg.block fb (bH h.blk) (λe=>by have:=hlt fb e.symm;omega)];exact h.blk
 have hbg:w6.heap[g]?=w.heap[g]?:=hg.block g hgl.2 (λe=>by have:=hlt g e.symm;omega)
 have h6:dS fb w0 w6:=⟨hg.os.trans h.keep.os,hg.tape.trans h.keep.tape,hg.output.trans h.keep.output,Nat.le_trans h.keep.size hg.size,λk hk hne=>by
  rw [hg.block k (Nat.lt_of_lt_of_le hk h.keep.size) (λe=>by have:=hlt k e.symm;omega)]
  exact h.keep.block k hk hne⟩
 have hby:BytesAt w6 g s:=λi hi=>(World.cell?_of_block (w:=w) hbg).trans (h.by_ i hi)
 have gr:∀(w1:World) (i:Nat) (u:Value),w1.grownBy (w1.setCell ⟨fb,i,none⟩ u) (some fb):=λw1 i u=>⟨rfl,rfl,rfl,Aas,λk _ hne=>Below.heap_setCell _ _ _ _ (λe=>hne Aao)⟩
 have hne:v'.ownBlock=none\/v'.ownBlock≠some fb:=by
  right
  intro e;have:=(hown.lt fb e).1;omega
 have st:∀(w1:World) (i:Nat) (u:Value),BytesAt w1 g s->BytesAt (w1.setCell ⟨fb,i,none⟩ u) g s:=λw1 i u hw j hj=>(World.cell?_setCell_other _ _ _ _ (by simp<;>omega)).trans (hw j hj)
 refine⟨hb,λz=>⟨(h6.trans (dS.set _)).trans (dS.set _),ayw (ayw hb 0 v') 1 (.int .i64 z),?_,st _ _ _ (st _ _ _ hby),hlo,hgl.1,?_⟩⟩
 .rw [List.length_append,yt];exact(hown.kept (gr _ 0 v') hne).kept (gr _ 1 (.int .i64 z)) hne
 .have:=hg.size;simp[World.setCell];omega
def endOf (w:World) (fb:Nat):Nat:=match w.cell? ⟨fb,1,none⟩ with|some (.int _ z)=>z.toNat|_=>0
theorem FS.endOf (h:FS w0 w fb g s v L a):endOf w fb=a:=by
 unfold Go.Proofs.YtacgbldlonoaaaaGreatDoor.endOf;rw [(Yz h.blk).2];simp
def Found (w w':World) (fb:Nat) (s:ByteArray):Prop:=dS fb w w'/\∃v,w'.heap[fb]?=some (.cells #[v,.int .i64 (dW s).2] 112 (0,0))/\w'.ownsRow (w.heap.size+1) 34 11 v (dW s).1.length (GR.flat nV (dW s).1)
theorem FS.found (h:FS w0 w fb w0.heap.size s v L a) (hS:vU s a L) (hs:yT s a=false) (hb:aY w w'):Found w0 w' fb s:=by
 have h2:=h.step hb;refine⟨h2.keep,v,?_,?_⟩
 .rw [wZ hS hs];exact h2.blk
 .rw [wZ hS hs];exact h2.own
theorem acs (h:¬Ry s a):yT s a=false/\wN s a= -1:=by
 unfold yT wN;rw [decide_eq_false h,if_neg h];exact⟨rfl,rfl⟩
theorem readAll (fb:Nat) (s:ByteArray) (hs:s.size<=60000) (w:World) (hfb:fb < w.heap.size) (hne:fb≠5) (hf:w.heap[fb]?=some (.cells #[.slice none 0 0,.int .i64 0] 112 (0,0))) (hH:Handle w):
 Calls prog 72 #[.pointer (some ⟨fb,0,none⟩),.string s] w λe w'=>(e= .returned (.tuple #[])\/∃p,e=XT p)/\Found w w' fb s:=by
 obtain⟨i0,hi,hz0,hz1,hz2⟩:=info_parts abQ;obtain⟨cap,w1,abt,hcap,hby,hlt1,hbel⟩:=SH s w;have HF1:=Hq (show FS w w1 fb w.heap.size s (.slice none 0 0) [] 0 from⟨dS.of_below hbel,aJ hf hbel,World.ownsRow_nil _ _ _ _,hby,hfb,Nat.le_refl _,hlt1⟩);have HH:=Hq hH;have qb:=Hq (wG s hs);clear hbel hby hf hH hlt1;go_in
 go_wp2_with fail;go_loopw [] (λwr=>∃a v L,FS w wr fb w.heap.size s v L a/\vU s a L) (λwr=>s.size - endOf wr fb)
 case atStart=>exact⟨0,_,[],HF1,qb⟩
 case round=>
  clear HF1 qb abt;obtain⟨a,v,L,hF,hS⟩:=hrel;have hcl:=hF.lo;have hbl:=bH hF.blk;obtain⟨va,vc,hv,_⟩:=GR.own_at (enc:=nV) (sz:=11) (l:=L) jh hF.own;subst hv;obtain⟨c0,c1⟩:=Yz hF.blk;have hea:endOf wr fb=a:=hF.endOf;have HF:=Hq hF;have HEA:=Hq hea;have HS:=Hq hS;have ha:=hS.2.1;have HL:=Hq hS.1;clear hF hS hea;by_cases hlt:a < s.size
  case' neg=>
   have hnl:decide ((a:Int) < (s.size:Int))=false:=Aaf
   go_wp2_with fail
   exact bodyPost_end (v:= .tuple #[]) (by simp[results,results72,go_sem]) rfl ⟨.inl rfl,HF.found HS (AU Aaa) (Below.refl _ _)⟩
  have hlI:(a:Int) < (s.size:Int):=Aaa
  have HFA:=Hq (ad6 s hs a ha w.heap.size cap hcap wr HF.by_ HF.gl.2 (HH.keep1 HF.keep hfb hne));by_cases hfa:Ry s a
  case' neg=>
   obtain⟨hst,hE⟩:=acs hfa
   have HST:=Hq hst
   clear hst
   rw [hE] at HFA
   clear hE hfa
   generalize xP s a=TX at *
   go_wp2_with fail
   refine HFA.mono ?_
   rintro e w2 ⟨rfl,hb2⟩
   obtain⟨d0,d1⟩:=Yz (HF.step hb2).blk
   have HB2:=Hq hb2
   clear hb2 c0 c1
   go_wp2_with fail
   exact⟨rfl,.inr ⟨_,rfl⟩,HF.found HS HST HB2⟩
  have HFB:=Hq hfa
  have hE:wN s a=((wN s a).toNat:Nat):=by
   have h1:=hfa.2.1;have:wN s a=a+4+AY (tl s a):=if_pos hfa;omega
  have hE2:(wN s a).toNat<=100000:=by
   have h1:wN s a=a+4+AY (tl s a):=if_pos hfa;have h2:=Uf (iT (tl s a)) 0;have h3:=tK (tl s a);unfold AY at h1;omega
  have hTX:(xP s a).size<=1000:=by
   have h1:xP s a=Dk (tl s a):=if_pos hfa;rw [h1];exact Ga _ _
  have HO:=Hq (λw1 h=>aBT (xP s a) w1 (Nat.le_trans hTX Aah) h);have HY:=Hq (show jM (xP s a)=true->yT s a=true from λh=>by unfold yT;rw [decide_eq_true hfa,h];rfl);have HN:=Hq (show jM (xP s a)=false->yT s a=false from λh=>by unfold yT;rw [h,Bool.and_false]);have gU:=Hq (show yT s a=true->vU s (wN s a).toNat (L++[opC (xP s a)]) from λh=>yQ HS h);have HGT:=Hq (show yT s a=true->a < (wN s a).toNat/\(wN s a).toNat<=s.size from λh=>by obtain⟨_,_,_,h4,h5,_⟩:=nL h;omega);clear hTX hfa HFB;rw [hE] at HFA;clear hE;generalize (wN s a).toNat=z at *;generalize jM (xP s a)=OK at *;generalize hoc:opC (xP s a)=oc at *;clear hoc;generalize xP s a=TX at *;obtain⟨K,no,k,n,⟨mK,mF,mT,mI,mL,mk,mN⟩⟩:=oc;go_wp2_with fail;refine HFA.mono ?_;rintro e w2 ⟨rfl,hb2⟩;have HF2:=Hq (HF.step hb2);clear hb2 c0 c1 HFA;go_upto_region 5 with fail;refine wp_at (λW hW=>?_);obtain rfl:=hW;have aCi:=bH HF2.blk;obtain⟨c0,c1⟩:=Yz HF2.blk;have y0:=cell_regrown c0;clear c0 c1;refine kN Aab ?_;show uX _ _ _ _ 12 (Array.replicate 12 false) _ _
  open apS in exact ZX
theorem Found.step (h:Found w w1 fb s) (hb:aY w1 w2):Found w w2 fb s:=by
 obtain⟨hk,v,hv,ho⟩:=h;exact⟨hk.trans (dS.of_below hb),v,aJ hv hb,own_below ho hb⟩
theorem Uc {B B' size n:Nat} {e:TypeId} {xs:List Value} (h:w.ownsRow B e size v n xs) (hB:B'<=B):w.ownsRow B' e size v n xs:=by
 refine⟨h.1,?_⟩;rcases h.2 with hn|⟨g,cap,cur,rfl,hb,rest⟩
 .exact .inl hn
 .exact .inr ⟨g,cap,cur,rfl,Nat.le_trans hB hb,rest⟩
theorem Qw (a fb:Nat) (s:ByteArray) (hs:s.size<=60000) (w:World) (hfb:fb < w.heap.size) (hne:fb≠5) (hf:w.heap[fb]?=some (.cells #[.slice none 0 0,.int .i64 0] 112 (0,0))) (hH:Handle w) (ha:w.cell? ⟨a,0,none⟩=some (.string s)):
 Calls prog 71 #[.pointer (some ⟨fb,0,none⟩),.pointer (some ⟨a,0,none⟩)] w λe w'=>(e= .returned (.tuple #[])\/∃p,e=XT p)/\Found w w' fb s:=by
 have HR:=Hq (readAll fb s hs w hfb hne hf hH);clear hs hf hH;go_in
 go_wp2_with fail;refine HR.mono ?_;rintro e w1 ⟨hcase,hF⟩;have HF:=Hq hF;clear hF;rcases hcase with rfl|⟨p,rfl⟩
 .go_wp2_with fail;exact bodyPost_end (v:= .tuple #[]) (by simp[results,results71,go_sem]) rfl ⟨.inl rfl,HF⟩
 .go_wp2_with fail;exact⟨rfl,.inr ⟨_,rfl⟩,HF⟩
theorem Ur (a fb:Nat) (s:ByteArray) (hs:s.size<=60000) (w:World) (hfb:fb < w.heap.size) (hne:fb≠5) (hf:w.heap[fb]?=some (.cells #[.slice none 0 0,.int .i64 0] 112 (0,0))) (hH:Handle w) (ha:w.cell? ⟨a,0,none⟩=some (.string s)):
 Calls prog 70 #[.func (.func 71) #[] #[.pointer (some ⟨fb,0,none⟩),.pointer (some ⟨a,0,none⟩)]] w λe w'=>(∃b,e= .returned (.bool b))/\Found w w' fb s:=by
 have HC:=Hq (Qw a fb s hs w hfb hne hf hH ha);clear hs hH ha hf;have hdf:∀(fn:Fn) (first cap:Array Value) (w:World),(Instr.makeFunc fn first cap).run prog w= .ok (.func fn first cap) w:=λ_ _ _ _=>rfl
 go_enter_defers func70,ntmps70
 go_wp2_with fail;refine HC.mono ?_;rintro e w1 ⟨hcase,hF⟩;have HF:=Hq hF;clear hF HC;rcases hcase with rfl|⟨p,rfl⟩
 .go_wp2_with fail;refine leaves_cons (f:=143) (args:=#[]) Aac (by simp[go_sem]) ?_;refine(SE _).mono ?_;rintro e u' w'' ⟨rfl,rfl,rfl⟩;simp[Leaves,settle,results,results70,go_sem];exact HF
 .go_wp2_with fail;refine leaves_cons (f:=143) (args:=#[]) Aac (by simp[go_sem]) ?_;refine(WV p [] _).mono ?_;rintro e u' w'' ⟨rfl,rfl,hb⟩;have HF2:=Hq (HF.step hb);clear hb;simp[Leaves,settle,results,results70,go_sem];exact HF2
def lT (w:World) (s:ByteArray) (e:Ending) (w':World):Prop:=∃v,e= .returned (.tuple #[v,.int .i64 (dW s).2])/\w'.ownsRow w.heap.size 34 11 v (dW s).1.length (GR.flat nV (dW s).1)/\aY w w'
theorem lT.step {e:Ending} (h:lT w s e w1) (hb:aY w1 w2):lT w s e w2:=by
 obtain⟨v,he,ho,hB⟩:=h;exact⟨v,he,own_below ho hb,hB.trans (hb.mono hB.size)⟩
theorem PG (s:ByteArray) (_hs:s.size<=maxLen) (w:World) (hH:Handle w):Calls prog 25 #[.string s] w (lT w s):=by
 by_cases hbig:60000 < s.size
 .have hb1:(60000:Int) < (s.size:Int):=Aaa
  have HP:=Hq (show lT w s (.returned (.tuple #[.slice none 0 0,.int .i64 0])) (w.alloc (.cells #[.string s] 9)) from by
   have e:dW s=([],0):=by unfold dW;rw [if_neg Aaa]
   refine⟨.slice none 0 0,?_,?_,au w _⟩
   .rw [e];rfl
   .rw [e];exact World.ownsRow_nil _ _ _ _)
  clear hH;go_in
  go_wp2_with fail;exact bodyPost_ret (v:= .tuple #[.slice none 0 0,.int .i64 0]) (by simp[results,results25,go_sem]) rfl HP
 .have hlt:5 < w.heap.size:=by
   exact ag8
  have hb1:¬((60000:Int) < (s.size:Int)):=Aaa
  obtain⟨hA,hF,hB⟩:=iO w (.cells #[.string s] 9) (.cells #[.slice none 0 0,.int .i64 0] 112);have HW:=Hq (Ur w.heap.size (w.heap.size+1) s Aaa _ Aac Aaa hF (hH.below hB) (cell_of_row _ w.heap.size 0 _ 9 (0,0) hA));have HB:=Hq hB;have hsz:((w.alloc (.cells #[.string s] 9)).alloc (.cells #[.slice none 0 0,.int .i64 0] 112)).heap.size=w.heap.size+2:=Aac
  clear hA hF hB hH hlt;have hmf:∀(fn:Fn) (first cap:Array Value) (w:World),(Instr.makeFunc fn first cap).run prog w= .ok (.func fn first cap) w:=λ_ _ _ _=>rfl
  go_in
  go_wp2_with fail;refine HW.mono ?_;rintro e w1 ⟨⟨b,rfl⟩,hk,v,hv,ho⟩;rw [hsz] at ho;have HP:=Hq (show lT w s (.returned (.tuple #[v,.int .i64 (dW s).2])) w1 from⟨v,rfl,Uc ho Aaa,hk.below HB Aaa HB.size⟩);have hwl:=bH hv;obtain⟨c0,c1⟩:=Yz hv;clear hv ho hk HW HB
  obtain⟨va,vc,hvv,_⟩:∃a c,v= .slice a (dW s).1.length c/\True:=by
   obtain⟨v2,he,hown,_⟩:=ah HP;simp only[Ending.returned.injEq,Value.tuple.injEq] at he;obtain⟨a2,c2,h2,_⟩:=GR.own_at (enc:=nV) (sz:=11) jh hown;have:v=v2:=by simpa using he
   exact⟨a2,c2,by rw [this,h2],trivial⟩
  subst hvv;generalize (dW s).2=E at *;generalize (dW s).1.length=N at *;go_wp2_with fail;go_quiet (fail);go_wp2_with fail;exact bodyPost_ret (v:= .tuple #[.slice va N vc,.int .i64 E]) (by simp[results,results25,go_sem]) rfl (HP.step ⟨rfl,rfl,rfl,Nat.le_refl _,λ_ _=>rfl⟩)
theorem wP (ho:wr.ownsRow w.heap.size 34 11 v L.length (GR.flat nV L)) (hb:aY w wr) (hS:vU s a L) (hs:yT s a=false) (hz:aY wr w'):lT w s (.returned (.tuple #[v,.int .i64 a])) w':=by
 have e:=wZ hS hs;exact⟨v,Aao,by rw [e];exact own_below ho hz,hb.trans (hz.mono hb.size)⟩
theorem Xf (ho:wr.ownsRow w.heap.size 34 11 v ([]:List fP).length (GR.flat nV [])) (hb:aY w wr) (h:60000 < s.size):lT w s (.returned (.tuple #[v,.int .i64 (0:Nat)])) wr:=by
 have e:dW s=([],0):=by unfold dW;rw [if_neg Aaa]
 exact⟨v,Aao,by rw [e];exact ho,hb⟩
theorem acS (s:ByteArray) (hs:s.size<=maxLen) (w:World):Calls prog 69 #[.string s] w (lT w s):=by
 obtain⟨i0,hi,hz0,hz1,hz2⟩:=info_parts abQ;have hs2:s.size<=9223372036854775807:=by unfold maxLen at hs;omega
 have HG:=Hq (λi w1=>Nh s i hs w1);clear hs;go_in
 go_wp2_with fail;go_loopw [4,5] (λv at_ wr=>∃(a:Nat) (L:List fP),at_= .int .i64 a/\wr.ownsRow w.heap.size 34 11 v L.length (GR.flat nV L)/\aY w wr/\((s.size<=60000/\vU s a L)\/(60000 < s.size/\a=0/\L=[]))) (λ_ at_ _=>s.size - (intOf at_).toNat)
 case atStart=>
  refine⟨0,[],rfl,World.ownsRow_lit _ #[] 0 (Nat.le_refl _) Aae rfl,(Below.refl _ _).alloc (Nat.le_refl _) _,?_⟩;by_cases h:s.size<=60000
  .exact .inl ⟨h,wG s h⟩
  .exact .inr ⟨Aaa,rfl,rfl⟩
 case round=>
  obtain⟨a,L,rfl,hown,hbel,hcase⟩:=hrel;obtain⟨va,vc,rfl,_⟩:=GR.own_at (enc:=nV) (sz:=11) (l:=L) jh hown;have HOWN:=Hq hown;have gI:=Hq hbel;clear hown hbel;rcases hcase with⟨hsm,hS⟩|⟨hbig,rfl,rfl⟩
  case' inr=>
   have hb1:decide ((s.size:Int)<=60000)=false:=Aaf
   go_wp2_with fail
   exact bodyPost_ret (v:= .tuple #[.slice va 0 vc,.int .i64 0]) Acs rfl (Xf HOWN gI hbig)
  have hb1:decide ((s.size:Int)<=60000)=true:=Aaf
  have ha:=hS.2.1;have HS:=Hq hS;clear hS;by_cases h4:a+4 < s.size
  case' neg=>
   have hb2:decide ((4:Int) < (s.size:Int) - (a:Int))=false:=Aaf
   have HST:=Hq (AU h4)
   go_wp2_with fail
   exact bodyPost_ret (v:= .tuple #[.slice va L.length vc,.int .i64 a]) Acs rfl (wP HOWN gI HS HST (Below.refl _ _))
  have hb2:decide ((4:Int) < (s.size:Int) - (a:Int))=true:=Aaf
  have h4i:(a:Int)+4 < (s.size:Int):=Aaa
  have hw4:IntKind.i64.wrap ((a:Int)+4)=(a:Int)+4:=IntWalk.i64_in _ ⟨Aaa,Aaa⟩;have hw5:0<=(a:Int)+4/\(a:Int)+4<=(s.size:Int):=Aaa
  have hw6:(a:Int)<=(a:Int)+4:=Aaa
  have hw7:((a:Int)+4).toNat=a+4:=Aaa
  have Dw:=Hq (λw1=>HG ((a:Int)+4) w1);have hTX:=Ga s ((a:Int)+4);have hEl:=Uf s ((a:Int)+4);have ajp:(jJ s ((a:Int)+4)).size<=maxLen:=Nat.le_trans hTX Aah;have GN:=Hq (λw1=>Yv (jJ s ((a:Int)+4)) ajp w1);have HC:=Hq (λw1=>AJ (jJ s ((a:Int)+4)) w1 ajp);have e:(65536*(sums (jJ s ((a:Int)+4)).data.toList).2+(sums (jJ s ((a:Int)+4)).data.toList).1:Int)=(ig (jJ s ((a:Int)+4)):Int):=by unfold ig;omega
  rw [e] at HC;have HW:=Hq (λw1=>VB (ig (jJ s ((a:Int)+4))) (Ey _) w1);have hspec:=Q7 s a h4;have Zu:=Hq (λh:yT s a=true=>(show _/\_ from⟨yQ HS h,nL h⟩));unfold Lj at GN;have HOC:=Hq (show jM (jJ s ((a:Int)+4))=true->getOp (jJ s ((a:Int)+4))=opC (jJ s ((a:Int)+4)) from λh=>by unfold getOp;rw [if_pos h]);clear e hTX ajp HG;by_cases hE:iW s ((a:Int)+4) < 0
  case' pos=>
   have HST:=Hq (show yT s a=false by rw [hspec,decide_eq_false Aaa];rfl)
   have hd:decide (iW s ((a:Int)+4) < 0)=true:=decide_eq_true hE
   clear hspec Zu HOC
   generalize iW s ((a:Int)+4)=E at *
   generalize iK (ig (jJ s ((a:Int)+4)))=bW at *
   generalize ig (jJ s ((a:Int)+4))=nn at *
   generalize jM (jJ s ((a:Int)+4))=OK at *
   generalize getOp (jJ s ((a:Int)+4))=oc at *
   generalize jJ s ((a:Int)+4)=TX at *
   obtain⟨K,no,k,n,⟨mK,mF,mT,mI,mL,mk,mN⟩⟩:=oc
   go_wp2_with fail
   refine(Dw _).mono ?_
   rintro e w1 ⟨rfl,hb1⟩
   have HB1:=Hq hb1
   clear hb1
   go_wp2_with fail
   refine(GN _).mono ?_
   rintro e w2 ⟨rfl,hb2⟩
   have HB2:=Hq (HB1.trans (hb2.mono HB1.size))
   clear hb2 HB1
   go_upto_region 6 with fail
   refine wp_at (λW hW=>?_)
   have iA:Hid (aY wr W):=by rw [hW];exact HB2.trans ((au w2 _).mono HB2.size)
   have HOW:Hid (W.heap[w2.heap.size]?=some (.cells (cu K no k n mK mF mT mI mL mk mN) 34 (0,0))):=Adg
   clear hW HB2
   refine dz Aab ?_
   show iL _ _ _ _ 17 (Array.replicate 17 false) _ _
   refine tk [0,1,2,3,4,5,6,7,8,9,10] ?_
   iterate 11 (refine vJ (λK hK=>?_);go_simp;refine hK _ ?_;clear hK K)
   refine jc ?_
   refine dP 11 rfl Aab Aab Aab (λ_ _ _ _ h=>h) (λK hK=>?_)
   go_simp
   first
    |(refine hK _ ?_;clear hK K)
    |(apply Exists.intro
      refine⟨λ_=>?_,hK _ ?_⟩
      ((simp only[hw4];rw [if_pos hw5,if_pos hw6,hw7];exact⟨rfl,rfl⟩))
      clear hK K)
   refine tk [12] ?_
   (refine vJ (λK hK=>?_);go_simp;refine hK _ ?_;clear hK K)
   refine jc ?_
   refine dP 13 rfl Aab Aab Aab (λ_ _ _ _ h=>h) (λK hK=>?_)
   go_simp
   first
    |(refine hK _ ?_;clear hK K)
    |(apply Exists.intro
      refine⟨λ_=>?_,hK _ ?_⟩
      ((first|exact(HC _).mono (λe z ⟨he,hz⟩=>⟨he,hz▸Below.refl _ _⟩)|exact HW _))
      clear hK K)
   refine dP 14 rfl Aab Aab Aab (λ_ _ _ _ h=>h) (λK hK=>?_)
   go_simp
   first
    |(refine hK _ ?_;clear hK K)
    |(apply Exists.intro
      refine⟨λ_=>?_,hK _ ?_⟩
      ((first|exact(HC _).mono (λe z ⟨he,hz⟩=>⟨he,hz▸Below.refl _ _⟩)|exact HW _))
      clear hK K)
   refine tk [15,16] ?_
   iterate 2 (refine vJ (λK hK=>?_);go_simp;refine hK _ ?_;clear hK K)
   refine jc ?_
   refine fE Aab (λz hz=>?_)
   have pQ:=Hq (iA.trans (hz.mono iA.size))
   clear hz iA HOW
   go_simp
   go_wp2_with fail
   exact bodyPost_ret (v:= .tuple #[.slice va L.length vc,.int .i64 a]) Acs rfl (wP HOWN gI HS HST pQ)
  have hd:decide (iW s ((a:Int)+4) < 0)=false:=decide_eq_false hE;have hd2:decide (0<=iW s ((a:Int)+4))=true:=decide_eq_true Aaa;rw [hd2,Bool.true_and] at hspec;clear hd2;cases hok:jM (jJ s ((a:Int)+4))
  case' false=>
   have HST:=Hq (show yT s a=false by rw [hspec,hok];rfl)
   rw [hok] at GN
   clear hspec Zu HOC hok
   generalize iW s ((a:Int)+4)=E at *
   generalize iK (ig (jJ s ((a:Int)+4)))=bW at *
   generalize ig (jJ s ((a:Int)+4))=nn at *
   generalize getOp (jJ s ((a:Int)+4))=oc at *
   generalize jJ s ((a:Int)+4)=TX at *
   obtain⟨K,no,k,n,⟨mK,mF,mT,mI,mL,mk,mN⟩⟩:=oc
   go_wp2_with fail
   refine(Dw _).mono ?_
   rintro e w1 ⟨rfl,hb1⟩
   have HB1:=Hq hb1
   clear hb1
   go_wp2_with fail
   refine(GN _).mono ?_
   rintro e w2 ⟨rfl,hb2⟩
   have HB2:=Hq (HB1.trans (hb2.mono HB1.size))
   clear hb2 HB1
   go_upto_region 6 with fail
   refine wp_at (λW hW=>?_)
   have iA:Hid (aY wr W):=by rw [hW];exact HB2.trans ((au w2 _).mono HB2.size)
   have HOW:Hid (W.heap[w2.heap.size]?=some (.cells (cu K no k n mK mF mT mI mL mk mN) 34 (0,0))):=Adg
   clear hW HB2
   refine dz Aab ?_
   show iL _ _ _ _ 17 (Array.replicate 17 false) _ _
   refine tk [0,1,2,3,4,5,6,7,8,9,10] ?_
   iterate 11 (refine vJ (λK hK=>?_);go_simp;refine hK _ ?_;clear hK K)
   refine jc ?_
   refine dP 11 rfl Aab Aab Aab (λ_ _ _ _ h=>h) (λK hK=>?_)
   go_simp
   first
    |(refine hK _ ?_;clear hK K)
    |(apply Exists.intro
      refine⟨λ_=>?_,hK _ ?_⟩
      ((simp only[hw4];rw [if_pos hw5,if_pos hw6,hw7];exact⟨rfl,rfl⟩))
      clear hK K)
   refine tk [12] ?_
   (refine vJ (λK hK=>?_);go_simp;refine hK _ ?_;clear hK K)
   refine jc ?_
   refine dP 13 rfl Aab Aab Aab (λ_ _ _ _ h=>h) (λK hK=>?_)
   go_simp
   first
    |(refine hK _ ?_;clear hK K)
    |(apply Exists.intro
      refine⟨λ_=>?_,hK _ ?_⟩
      ((first|exact(HC _).mono (λe z ⟨he,hz⟩=>⟨he,hz▸Below.refl _ _⟩)|exact HW _))
      clear hK K)
   refine dP 14 rfl Aab Aab Aab (λ_ _ _ _ h=>h) (λK hK=>?_)
   go_simp
   first
    |(refine hK _ ?_;clear hK K)
    |(apply Exists.intro
      refine⟨λ_=>?_,hK _ ?_⟩
      ((first|exact(HC _).mono (λe z ⟨he,hz⟩=>⟨he,hz▸Below.refl _ _⟩)|exact HW _))
      clear hK K)
   refine tk [15,16] ?_
   iterate 2 (refine vJ (λK hK=>?_);go_simp;refine hK _ ?_;clear hK K)
   refine jc ?_
   refine fE Aab (λz hz=>?_)
   have pQ:=Hq (iA.trans (hz.mono iA.size))
   clear hz iA HOW
   go_simp
   go_wp2_with fail
   exact bodyPost_ret (v:= .tuple #[.slice va L.length vc,.int .i64 a]) Acs rfl (wP HOWN gI HS HST pQ)
  rw [hok,Bool.true_and] at hspec;rw [hok] at GN;have hoc:=ah HOC hok;clear HOC hok;by_cases hq:s.extract a (a+4)=iK (ig (jJ s ((a:Int)+4)))
  case' neg=>
   have HST:=Hq (show yT s a=false by rw [hspec,decide_eq_false hq])
   have hqq:((s.extract a (a+4)).toList == (iK (ig (jJ s ((a:Int)+4)))).toList)=false:=by
    rw [beq_eq_false_iff_ne];intro h;rw [ByteArray.toList_eq,ByteArray.toList_eq] at h;exact hq (ByteArray.ext (Array.ext' h))
   clear hspec Zu hq hoc
   generalize iW s ((a:Int)+4)=E at *
   generalize iK (ig (jJ s ((a:Int)+4)))=bW at *
   generalize ig (jJ s ((a:Int)+4))=nn at *
   generalize getOp (jJ s ((a:Int)+4))=oc at *
   generalize jJ s ((a:Int)+4)=TX at *
   obtain⟨K,no,k,n,⟨mK,mF,mT,mI,mL,mk,mN⟩⟩:=oc
   go_wp2_with fail
   refine(Dw _).mono ?_
   rintro e w1 ⟨rfl,hb1⟩
   have HB1:=Hq hb1
   clear hb1
   go_wp2_with fail
   refine(GN _).mono ?_
   rintro e w2 ⟨rfl,hb2⟩
   have HB2:=Hq (HB1.trans (hb2.mono HB1.size))
   clear hb2 HB1
   go_upto_region 6 with fail
   refine wp_at (λW hW=>?_)
   have iA:Hid (aY wr W):=by rw [hW];exact HB2.trans ((au w2 _).mono HB2.size)
   have HOW:Hid (W.heap[w2.heap.size]?=some (.cells (cu K no k n mK mF mT mI mL mk mN) 34 (0,0))):=Adg
   clear hW HB2
   refine dz Aab ?_
   show iL _ _ _ _ 17 (Array.replicate 17 false) _ _
   refine tk [0,1,2,3,4,5,6,7,8,9,10] ?_
   iterate 11 (refine vJ (λK hK=>?_);go_simp;refine hK _ ?_;clear hK K)
   refine jc ?_
   refine dP 11 rfl Aab Aab Aab (λ_ _ _ _ h=>h) (λK hK=>?_)
   go_simp
   first
    |(refine hK _ ?_;clear hK K)
    |(apply Exists.intro
      refine⟨λ_=>?_,hK _ ?_⟩
      ((simp only[hw4];rw [if_pos hw5,if_pos hw6,hw7];exact⟨rfl,rfl⟩))
      clear hK K)
   refine tk [12] ?_
   (refine vJ (λK hK=>?_);go_simp;refine hK _ ?_;clear hK K)
   refine jc ?_
   refine dP 13 rfl Aab Aab Aab (λ_ _ _ _ h=>h) (λK hK=>?_)
   go_simp
   first
    |(refine hK _ ?_;clear hK K)
    |(apply Exists.intro
      refine⟨λ_=>?_,hK _ ?_⟩
      ((first|exact(HC _).mono (λe z ⟨he,hz⟩=>⟨he,hz▸Below.refl _ _⟩)|exact HW _))
      clear hK K)
   refine dP 14 rfl Aab Aab Aab (λ_ _ _ _ h=>h) (λK hK=>?_)
   go_simp
   first
    |(refine hK _ ?_;clear hK K)
    |(apply Exists.intro
      refine⟨λ_=>?_,hK _ ?_⟩
      ((first|exact(HC _).mono (λe z ⟨he,hz⟩=>⟨he,hz▸Below.refl _ _⟩)|exact HW _))
      clear hK K)
   refine tk [15,16] ?_
   iterate 2 (refine vJ (λK hK=>?_);go_simp;refine hK _ ?_;clear hK K)
   refine jc ?_
   refine fE Aab (λz hz=>?_)
   have pQ:=Hq (iA.trans (hz.mono iA.size))
   clear hz iA HOW
   go_simp
   go_wp2_with fail
   exact bodyPost_ret (v:= .tuple #[.slice va L.length vc,.int .i64 a]) Acs rfl (wP HOWN gI HS HST pQ)
  have hqq:((s.extract a (a+4)).toList == (iK (ig (jJ s ((a:Int)+4)))).toList)=true:=by rw [hq];simp
  have hst:yT s a=true:=by rw [hspec,decide_eq_true hq]
  obtain⟨hN1,_,hf1,hf2,hf3,hf4,_⟩:=ah Zu hst;have hE5:iW s ((a:Int)+4)=((iW s ((a:Int)+4)).toNat:Nat):=Aaa
  have hE6:a < (iW s ((a:Int)+4)).toNat:=Aaa
  have hE7:(iW s ((a:Int)+4)).toNat<=s.size:=Aaa
  rw [hf1,hf2,<-hoc] at hN1;have gU:=Hq hN1;have hd0:¬(((iW s ((a:Int)+4)).toNat:Nat):Int) < 0:=Aaa
  rw [hE5] at Dw;clear hspec Zu hq hst hN1 hf1 hf2 hf3 hf4 hoc hd hE hE5 hEl;have hd:=decide_eq_false hd0;generalize (iW s ((a:Int)+4)).toNat=E at *;generalize iK (ig (jJ s ((a:Int)+4)))=bW at *;generalize ig (jJ s ((a:Int)+4))=nn at *;generalize getOp (jJ s ((a:Int)+4))=oc at *;generalize jJ s ((a:Int)+4)=TX at *;obtain⟨K,no,k,n,⟨mK,mF,mT,mI,mL,mk,mN⟩⟩:=oc;go_wp2_with fail;refine(Dw _).mono ?_;rintro e w1 ⟨rfl,hb1⟩;have HB1:=Hq hb1;clear hb1;go_wp2_with fail;refine(GN _).mono ?_;rintro e w2 ⟨rfl,hb2⟩;have HB2:=Hq (HB1.trans (hb2.mono HB1.size));clear hb2 HB1;go_upto_region 6 with fail;refine wp_at (λW hW=>?_);have iA:Hid (aY wr W):=by rw [hW];exact HB2.trans ((au w2 _).mono HB2.size)
  have HOW:Hid (W.heap[w2.heap.size]?=some (.cells (cu K no k n mK mF mT mI mL mk mN) 34 (0,0))):=Adg
  clear hW HB2;refine dz Aab ?_;show iL _ _ _ _ 17 (Array.replicate 17 false) _ _
  refine tk [0,1,2,3,4,5,6,7,8,9,10] ?_;iterate 11 (refine vJ (λK hK=>?_);go_simp;refine hK _ ?_;clear hK K)
  refine jc ?_;refine dP 11 rfl Aab Aab Aab (λ_ _ _ _ h=>h) (λK hK=>?_);go_simp
  first
   |(refine hK _ ?_;clear hK K)
   |(apply Exists.intro
     refine⟨λ_=>?_,hK _ ?_⟩
     ((simp only[hw4];rw [if_pos hw5,if_pos hw6,hw7];exact⟨rfl,rfl⟩))
     clear hK K)
  refine tk [12] ?_;(refine vJ (λK hK=>?_);go_simp;refine hK _ ?_;clear hK K)
  refine jc ?_;refine dP 13 rfl Aab Aab Aab (λ_ _ _ _ h=>h) (λK hK=>?_);go_simp
  first
   |(refine hK _ ?_;clear hK K)
   |(apply Exists.intro
     refine⟨λ_=>?_,hK _ ?_⟩
     ((first|exact(HC _).mono (λe z ⟨he,hz⟩=>⟨he,hz▸Below.refl _ _⟩)|exact HW _))
     clear hK K)
  refine dP 14 rfl Aab Aab Aab (λ_ _ _ _ h=>h) (λK hK=>?_);go_simp
  first
   |(refine hK _ ?_;clear hK K)
   |(apply Exists.intro
     refine⟨λ_=>?_,hK _ ?_⟩
     ((first|exact(HC _).mono (λe z ⟨he,hz⟩=>⟨he,hz▸Below.refl _ _⟩)|exact HW _))
     clear hK K)
  refine tk [15,16] ?_;open aue in exact aam
end Go.Proofs.YtacgbldlonoaaaaGreatDoor
