/- Parts. -/
import Derived.Test.YtohmklmkjmlpjaaGreatDoorRk23
import Derived.Test.YtohmklmkjmlpjaaGreatDoorRk14
namespace Go.Proofs.YtohmklmkjmlpjaaGreatDoor
open Go.Proofs.Tryz
set_option maxHeartbeats 4000000
open Go.RowKit
open Mth
variable {w w0 w' w1 w2 wr:World} {s:ByteArray} {v:Value} {a g fb:Nat} {L:List gK} {t:TypeId} {cs:Array Value}
abbrev nI (o:gK):List Value:=[.int .i64 o.K,.int .i64 o.no,.string o.k,.int .i64 o.n,.int .i64 o.m.K,.int .i64 o.m.F,.int .i64 o.m.T,.int .i64 o.m.I,.int .i64 o.m.L,.string o.m.k,.int .i64 o.m.N]
theorem jP (o:gK):(nI o).length=11:=rfl
theorem OJ:∀(o:gK),∀u∈nI o,u.oneCell'=true:=by
 intro o u hu;simp only[nI,List.mem_cons,List.not_mem_nil,or_false] at hu;rcases hu with rfl|rfl|rfl|rfl|rfl|rfl|rfl|rfl|rfl|rfl|rfl<;>rfl
theorem xS (l:List gK) (o:gK):GR.flat nI (l++[o])=GR.flat nI l++nI o:=by rw [GR.flat_append,GR.flat_one]
abbrev Jg (w:World) (a:Option Addr) (l:List gK):Prop:=GR.At nI 11 w a l
theorem Jg.eleven {a:Option Addr} {l:List gK} (h:Jg w a l) (i:Nat) (hi:i < l.length):∃g off,a=some ⟨g,off,none⟩/\g < w.heap.size/\w.cell? ⟨g,off+i*11,none⟩=some (.int .i64 l[i].K)/\w.cell? ⟨g,off+i*11+1,none⟩=some (.int .i64 l[i].no)/\w.cell? ⟨g,off+i*11+2,none⟩=some (.string l[i].k)/\w.cell? ⟨g,off+i*11+3,none⟩=some (.int .i64 l[i].n)/\w.cell? ⟨g,off+i*11+4,none⟩=some (.int .i64 l[i].m.K)/\w.cell? ⟨g,off+i*11+5,none⟩=some (.int .i64 l[i].m.F)/\w.cell? ⟨g,off+i*11+6,none⟩=some (.int .i64 l[i].m.T)/\w.cell? ⟨g,off+i*11+7,none⟩=some (.int .i64 l[i].m.I)/\w.cell? ⟨g,off+i*11+8,none⟩=some (.int .i64 l[i].m.L)/\w.cell? ⟨g,off+i*11+9,none⟩=some (.string l[i].m.k)/\w.cell? ⟨g,off+i*11+10,none⟩=some (.int .i64 l[i].m.N):=by
 obtain⟨g,off,e,hg,hc⟩:=h i hi;refine⟨g,off,e,hg,?_,?_,?_,?_,?_,?_,?_,?_,?_,?_,?_⟩
 .simpa using hc 0 Aaa
 .simpa [Nat.add_assoc] using hc 1 Aaa
 .simpa [Nat.add_assoc] using hc 2 Aaa
 .simpa [Nat.add_assoc] using hc 3 Aaa
 .simpa [Nat.add_assoc] using hc 4 Aaa
 .simpa [Nat.add_assoc] using hc 5 Aaa
 .simpa [Nat.add_assoc] using hc 6 Aaa
 .simpa [Nat.add_assoc] using hc 7 Aaa
 .simpa [Nat.add_assoc] using hc 8 Aaa
 .simpa [Nat.add_assoc] using hc 9 Aaa
 .simpa [Nat.add_assoc] using hc 10 Aaa
set_option maxRecDepth 100000
theorem abO:(prog.info? 100).map (λi=>(i.zero,i.size,i.bytes))=some (some (.agg (bZ 0 0 ByteArray.empty 0 0 0 0 0 0 ByteArray.empty 0)),11,104):=Aab
theorem azk {c:Nat} (h:w.heap[c]?=some (.cells cs t (0,0))) (i:Nat) (v:Value):(w.setCell ⟨c,i,none⟩ v).heap[c]?=some (.cells (cs.setIfInBounds i v) t (0,0)):=by
 exact Ve
theorem aiM (h:w.heap[g]?=some (.cells cs t (0,0))) (i:Nat):w.frozen? ⟨g,i,none⟩=false:=by
 unfold World.frozen?;rw [h];simp
theorem Yo {v0 v1:Value} (h:w.heap[g]?=some (.cells #[v0,v1] t (0,0))):w.cell? ⟨g,0,none⟩=some v0/\w.cell? ⟨g,1,none⟩=some v1:=by
 have hc:∀i,w.cell? ⟨g,i,none⟩=#[v0,v1][i]?:=λi=>cell_of_row w g i _ t (0,0) h
 exact⟨hc 0,hc 1⟩
structure FS (w0 w:World) (fb g:Nat) (s:ByteArray) (v:Value) (L:List gK) (a:Nat):Prop where
 keep:dR fb w0 w
 blk:w.heap[fb]?=some (.cells #[v,.int .i64 a] 188 (0,0))
 own:w.ownsRow (g+1) 100 11 v L.length (GR.flat nI L)
 by_:BytesAt w g s
 lo:fb < w0.heap.size
 gl:w0.heap.size<=g/\g < w.heap.size
theorem FS.step (h:FS w0 w fb g s v L a) (hb:aI w w'):FS w0 w' fb g s v L a:=
 ⟨h.keep.trans (dR.of_below hb),aK h.blk hb,own_below h.own hb,h.by_.below h.gl.2 hb,h.lo,h.gl.1,Nat.lt_of_lt_of_le h.gl.2 hb.size⟩
theorem FS.app {w6:World} {v':Value} (h:FS w0 w fb g s v L a) (o:gK) (hown:w6.ownsRow (g+1) 100 11 v' (L.length+1) (GR.flat nI L++nI o)) (hg:w.grownBy w6 v.ownBlock):
 w6.heap[fb]?=some (.cells #[v,.int .i64 a] 188 (0,0))/\∀z:Nat,FS w0 ((w6.setCell ⟨fb,0,none⟩ v').setCell ⟨fb,1,none⟩ (.int .i64 z)) fb g s v' (L++[o]) z:=by
 have hlt:∀x,v.ownBlock=some x->g+1<=x:=λx hx=>(h.own.lt x hx).1
 have hgl:=h.gl;have hlo:=h.lo
 have hb:w6.heap[fb]?=some (.cells #[v,.int .i64 a] 188 (0,0)):=by
  rw [hg.block fb (dD h.blk) (λe=>by have:=hlt fb e.symm;omega)];exact h.blk
 have hbg:w6.heap[g]?=w.heap[g]?:=hg.block g hgl.2 (λe=>by have:=hlt g e.symm;omega)
 have h6:dR fb w0 w6:=⟨hg.os.trans h.keep.os,hg.tape.trans h.keep.tape,hg.output.trans h.keep.output,Nat.le_trans h.keep.size hg.size,λk hk hne=>by
  rw [hg.block k (Nat.lt_of_lt_of_le hk h.keep.size) (λe=>by have:=hlt k e.symm;omega)]
  exact h.keep.block k hk hne⟩
 have hby:BytesAt w6 g s:=λi hi=>(World.cell?_of_block (w:=w) hbg).trans (h.by_ i hi)
 have gr:∀(w1:World) (i:Nat) (u:Value),w1.grownBy (w1.setCell ⟨fb,i,none⟩ u) (some fb):=λw1 i u=>⟨rfl,rfl,rfl,Aaq,λk _ hne=>Below.heap_setCell _ _ _ _ (λe=>hne Aao)⟩
 have hne:v'.ownBlock=none\/v'.ownBlock≠some fb:=by
  right
  intro e;have:=(hown.lt fb e).1;omega
 have st:∀(w1:World) (i:Nat) (u:Value),BytesAt w1 g s->BytesAt (w1.setCell ⟨fb,i,none⟩ u) g s:=λw1 i u hw j hj=>(World.cell?_setCell_other _ _ _ _ (by simp<;>omega)).trans (hw j hj)
 refine⟨hb,λz=>⟨(h6.trans (dR.set _)).trans (dR.set _),azk (azk hb 0 v') 1 (.int .i64 z),?_,st _ _ _ (st _ _ _ hby),hlo,hgl.1,?_⟩⟩
 .rw [List.length_append,xS];exact(hown.kept (gr _ 0 v') hne).kept (gr _ 1 (.int .i64 z)) hne
 .have:=hg.size;simp[World.setCell];omega
def endOf (w:World) (fb:Nat):Nat:=match w.cell? ⟨fb,1,none⟩ with|some (.int _ z)=>z.toNat|_=>0
theorem FS.endOf (h:FS w0 w fb g s v L a):endOf w fb=a:=by
 unfold Go.Proofs.YtohmklmkjmlpjaaGreatDoor.endOf;rw [(Yo h.blk).2];simp
def Found (w w':World) (fb:Nat) (s:ByteArray):Prop:=dR fb w w'/\∃v,w'.heap[fb]?=some (.cells #[v,.int .i64 (gH s).2] 188 (0,0))/\w'.ownsRow (w.heap.size+1) 100 11 v (gH s).1.length (GR.flat nI (gH s).1)
theorem FS.found (h:FS w0 w fb w0.heap.size s v L a) (hS:yU s a L) (hs:Dk s a=false) (hb:aI w w'):Found w0 w' fb s:=by
 have h2:=h.step hb;refine⟨h2.keep,v,?_,?_⟩
 .rw [BJ hS hs];exact h2.blk
 .rw [BJ hS hs];exact h2.own
theorem acj (h:¬Sy s a):Dk s a=false/\Gz s a= -1:=by
 unfold Dk Gz;rw [decide_eq_false h,if_neg h];exact⟨rfl,rfl⟩
theorem readAll (fb:Nat) (s:ByteArray) (hs:s.size<=60000) (w:World) (hfb:fb < w.heap.size) (hne:fb≠0) (hf:w.heap[fb]?=some (.cells #[.slice none 0 0,.int .i64 0] 188 (0,0))) (hH:Handle w):
 Calls prog 136 #[.pointer (some ⟨fb,0,none⟩),.string s] w λe w'=>(e= .returned (.tuple #[])\/∃p,e=XC p)/\Found w w' fb s:=by
 obtain⟨i0,hi,hz0,hz1,hz2⟩:=info_parts abO;obtain⟨cap,w1,aiO,hcap,hby,hlt1,hbel⟩:=Sk s w;have HF1:=Hq (show FS w w1 fb w.heap.size s (.slice none 0 0) [] 0 from⟨dR.of_below hbel,aK hf hbel,World.ownsRow_nil _ _ _ _,hby,hfb,Nat.le_refl _,hlt1⟩);have HH:=Hq hH;have D9:=Hq (Co s hs);clear hbel hby hf hH hlt1;go_in
 go_wp2_with fail;go_loopw [] (λwr=>∃a v L,FS w wr fb w.heap.size s v L a/\yU s a L) (λwr=>s.size - endOf wr fb)
 case atStart=>exact⟨0,_,[],HF1,D9⟩
 case round=>
  clear HF1 D9 aiO;obtain⟨a,v,L,hF,hS⟩:=hrel;have hcl:=hF.lo;have hbl:=dD hF.blk;obtain⟨va,vc,hv,_⟩:=GR.own_at (enc:=nI) (sz:=11) (l:=L) jP hF.own;subst hv;obtain⟨c0,c1⟩:=Yo hF.blk;have hea:endOf wr fb=a:=hF.endOf;have HF:=Hq hF;have HEA:=Hq hea;have HS:=Hq hS;have ha:=hS.2.1;have HL:=Hq hS.1;clear hF hS hea;by_cases hlt:a < s.size
  case' neg=>
   have hnl:decide ((a:Int) < (s.size:Int))=false:=Aag
   go_wp2_with fail;exact bodyPost_end (v:= .tuple #[]) (by simp[results,results136,go_sem]) rfl ⟨.inl rfl,HF.found HS (QO Aaa) (Below.refl _ _)⟩
  have hlI:(a:Int) < (s.size:Int):=Aaa
  have HFA:=Hq (ael s hs a ha w.heap.size cap hcap wr HF.by_ HF.gl.2 (HH.keep1 HF.keep hfb hne));by_cases hfa:Sy s a
  case' neg=>
   obtain⟨hst,hE⟩:=acj hfa;have HST:=Hq hst;clear hst;rw [hE] at HFA;clear hE hfa;generalize Gh s a=TX at *;go_wp2_with fail;refine HFA.mono ?_;rintro e w2 ⟨rfl,hb2⟩;obtain⟨d0,d1⟩:=Yo (HF.step hb2).blk;have HB2:=Hq hb2;clear hb2 c0 c1;go_wp2_with fail;exact⟨rfl,.inr ⟨_,rfl⟩,HF.found HS HST HB2⟩
  have HFB:=Hq hfa
  have hE:Gz s a=((Gz s a).toNat:Nat):=by
   have h1:=hfa.2.1;have:Gz s a=a+4+Ah (tl s a):=if_pos hfa;omega
  have hE2:(Gz s a).toNat<=100000:=by
   have h1:Gz s a=a+4+Ah (tl s a):=if_pos hfa;have h2:=TV (iO (tl s a)) 0;have h3:=rX (tl s a);unfold Ah at h1;omega
  have hTX:(Gh s a).size<=1000:=by
   have h1:Gh s a=Dl (tl s a):=if_pos hfa;rw [h1];exact Fq _ _
  have HO:=Hq (λw1 h=>aCE (Gh s a) w1 (Nat.le_trans hTX Aai) h);have HY:=Hq (show kE (Gh s a)=true->Dk s a=true from λh=>by unfold Dk;rw [decide_eq_true hfa,h];rfl);have HN:=Hq (show kE (Gh s a)=false->Dk s a=false from λh=>by unfold Dk;rw [h,Bool.and_false]);have iH:=Hq (show Dk s a=true->yU s (Gz s a).toNat (L++[opC (Gh s a)]) from λh=>FB HS h);have HGT:=Hq (show Dk s a=true->a < (Gz s a).toNat/\(Gz s a).toNat<=s.size from λh=>by obtain⟨_,_,_,h4,h5,_⟩:=sJ h;omega);clear hTX hfa HFB;rw [hE] at HFA;clear hE;generalize (Gz s a).toNat=z at *;generalize kE (Gh s a)=OK at *;generalize hoc:opC (Gh s a)=oc at *;clear hoc;generalize Gh s a=TX at *;obtain⟨K,no,k,n,⟨mK,mF,mT,mI,mL,mk,mN⟩⟩:=oc;go_wp2_with fail;refine HFA.mono ?_;rintro e w2 ⟨rfl,hb2⟩;have HF2:=Hq (HF.step hb2);clear hb2 c0 c1 HFA;go_upto_region 5 with fail;refine wp_at (λW hW=>?_);obtain rfl:=hW;have aDb:=dD HF2.blk;obtain⟨c0,c1⟩:=Yo HF2.blk;have y0:=cell_regrown c0;clear c0 c1;refine lY Aab ?_;show vP _ _ _ _ 12 (Array.replicate 12 false) _ _
  open aqs in exact ajH
theorem Found.step (h:Found w w1 fb s) (hb:aI w1 w2):Found w w2 fb s:=by
 obtain⟨hk,v,hv,ho⟩:=h;exact⟨hk.trans (dR.of_below hb),v,aK hv hb,own_below ho hb⟩
theorem TQ {B B' size n:Nat} {e:TypeId} {xs:List Value} (h:w.ownsRow B e size v n xs) (hB:B'<=B):w.ownsRow B' e size v n xs:=by
 refine⟨h.1,?_⟩;rcases h.2 with hn|⟨g,cap,cur,rfl,hb,rest⟩
 .exact .inl hn
 .exact .inr ⟨g,cap,cur,rfl,Nat.le_trans hB hb,rest⟩
theorem Qh (a fb:Nat) (s:ByteArray) (hs:s.size<=60000) (w:World) (hfb:fb < w.heap.size) (hne:fb≠0) (hf:w.heap[fb]?=some (.cells #[.slice none 0 0,.int .i64 0] 188 (0,0))) (hH:Handle w) (ha:w.cell? ⟨a,0,none⟩=some (.string s)):
 Calls prog 135 #[.pointer (some ⟨fb,0,none⟩),.pointer (some ⟨a,0,none⟩)] w λe w'=>(e= .returned (.tuple #[])\/∃p,e=XC p)/\Found w w' fb s:=by
 have HR:=Hq (readAll fb s hs w hfb hne hf hH);clear hs hf hH;go_in
 go_wp2_with fail;refine HR.mono ?_;rintro e w1 ⟨hcase,hF⟩;have HF:=Hq hF;clear hF;rcases hcase with rfl|⟨p,rfl⟩
 .go_wp2_with fail;exact bodyPost_end (v:= .tuple #[]) (by simp[results,results135,go_sem]) rfl ⟨.inl rfl,HF⟩
 .go_wp2_with fail;exact⟨rfl,.inr ⟨_,rfl⟩,HF⟩
theorem Uk (a fb:Nat) (s:ByteArray) (hs:s.size<=60000) (w:World) (hfb:fb < w.heap.size) (hne:fb≠0) (hf:w.heap[fb]?=some (.cells #[.slice none 0 0,.int .i64 0] 188 (0,0))) (hH:Handle w) (ha:w.cell? ⟨a,0,none⟩=some (.string s)):
 Calls prog 134 #[.func (.func 135) #[] #[.pointer (some ⟨fb,0,none⟩),.pointer (some ⟨a,0,none⟩)]] w λe w'=>(∃b,e= .returned (.bool b))/\Found w w' fb s:=by
 have HC:=Hq (Qh a fb s hs w hfb hne hf hH ha);clear hs hH ha hf;have hdf:∀(fn:Fn) (first cap:Array Value) (w:World),(Instr.makeFunc fn first cap).run prog w= .ok (.func fn first cap) w:=λ_ _ _ _=>rfl
 go_enter_defers func134,ntmps134
 go_wp2_with fail;refine HC.mono ?_;rintro e w1 ⟨hcase,hF⟩;have HF:=Hq hF;clear hF HC;rcases hcase with rfl|⟨p,rfl⟩
 .go_wp2_with fail;refine leaves_cons (f:=164) (args:=#[]) Aac (by simp[go_sem]) ?_;refine(Si _).mono ?_;rintro e u' w'' ⟨rfl,rfl,rfl⟩;simp[Leaves,settle,results,results134,go_sem];exact HF
 .go_wp2_with fail;refine leaves_cons (f:=164) (args:=#[]) Aac (by simp[go_sem]) ?_;refine(WB p [] _).mono ?_;rintro e u' w'' ⟨rfl,rfl,hb⟩;have HF2:=Hq (HF.step hb);clear hb;simp[Leaves,settle,results,results134,go_sem];exact HF2
def kN (w:World) (s:ByteArray) (e:Ending) (w':World):Prop:=∃v,e= .returned (.tuple #[v,.int .i64 (gH s).2])/\w'.ownsRow w.heap.size 100 11 v (gH s).1.length (GR.flat nI (gH s).1)/\aI w w'
theorem kN.step {e:Ending} (h:kN w s e w1) (hb:aI w1 w2):kN w s e w2:=by
 obtain⟨v,he,ho,hB⟩:=h;exact⟨v,he,own_below ho hb,hB.trans (hb.mono hB.size)⟩
theorem abM (s:ByteArray) (_hs:s.size<=maxLen) (w:World) (hH:Handle w):Calls prog 81 #[.string s] w (kN w s):=by
 by_cases hbig:60000 < s.size
 .have hb1:(60000:Int) < (s.size:Int):=Aaa
  have HP:=Hq (show kN w s (.returned (.tuple #[.slice none 0 0,.int .i64 0])) (w.alloc (.cells #[.string s] 9)) from by
   have e:gH s=([],0):=by unfold gH;rw [if_neg Aaa]
   refine⟨.slice none 0 0,?_,?_,ay w _⟩
   .rw [e];rfl
   .rw [e];exact World.ownsRow_nil _ _ _ _)
  clear hH;go_in
  go_wp2_with fail;exact bodyPost_ret (v:= .tuple #[.slice none 0 0,.int .i64 0]) (by simp[results,results81,go_sem]) rfl HP
 .have hlt:0 < w.heap.size:=by
   exact ahF
  have hb1:¬((60000:Int) < (s.size:Int)):=Aaa
  obtain⟨hA,hF,hB⟩:=ig w (.cells #[.string s] 9) (.cells #[.slice none 0 0,.int .i64 0] 188);have HW:=Hq (Uk w.heap.size (w.heap.size+1) s Aaa _ Aac Aaa hF (hH.below hB) (cell_of_row _ w.heap.size 0 _ 9 (0,0) hA));have HB:=Hq hB;have hsz:((w.alloc (.cells #[.string s] 9)).alloc (.cells #[.slice none 0 0,.int .i64 0] 188)).heap.size=w.heap.size+2:=Aac
  clear hA hF hB hH hlt;have hmf:∀(fn:Fn) (first cap:Array Value) (w:World),(Instr.makeFunc fn first cap).run prog w= .ok (.func fn first cap) w:=λ_ _ _ _=>rfl
  go_in
  go_wp2_with fail;refine HW.mono ?_;rintro e w1 ⟨⟨b,rfl⟩,hk,v,hv,ho⟩;rw [hsz] at ho;have HP:=Hq (show kN w s (.returned (.tuple #[v,.int .i64 (gH s).2])) w1 from⟨v,rfl,TQ ho Aaa,hk.below HB Aaa HB.size⟩);have hwl:=dD hv;obtain⟨c0,c1⟩:=Yo hv;clear hv ho hk HW HB
  obtain⟨va,vc,hvv,_⟩:∃a c,v= .slice a (gH s).1.length c/\True:=by
   obtain⟨v2,he,hown,_⟩:=ah HP;simp only[Ending.returned.injEq,Value.tuple.injEq] at he;obtain⟨a2,c2,h2,_⟩:=GR.own_at (enc:=nI) (sz:=11) jP hown;have:v=v2:=by simpa using he
   exact⟨a2,c2,by rw [this,h2],trivial⟩
  subst hvv;generalize (gH s).2=E at *;generalize (gH s).1.length=N at *;go_wp2_with fail;go_quiet (fail);go_wp2_with fail;exact bodyPost_ret (v:= .tuple #[.slice va N vc,.int .i64 E]) (by simp[results,results81,go_sem]) rfl (HP.step ⟨rfl,rfl,rfl,Nat.le_refl _,λ_ _=>rfl⟩)
theorem Js (ho:wr.ownsRow w.heap.size 100 11 v L.length (GR.flat nI L)) (hb:aI w wr) (hS:yU s a L) (hs:Dk s a=false) (hz:aI wr w'):kN w s (.returned (.tuple #[v,.int .i64 a])) w':=by
 have e:=BJ hS hs;exact⟨v,Aao,by rw [e];exact own_below ho hz,hb.trans (hz.mono hb.size)⟩
theorem WU (ho:wr.ownsRow w.heap.size 100 11 v ([]:List gK).length (GR.flat nI [])) (hb:aI w wr) (h:60000 < s.size):kN w s (.returned (.tuple #[v,.int .i64 (0:Nat)])) wr:=by
 have e:gH s=([],0):=by unfold gH;rw [if_neg Aaa]
 exact⟨v,Aao,by rw [e];exact ho,hb⟩
theorem QI (s:ByteArray) (hs:s.size<=maxLen) (w:World):Calls prog 19 #[.string s] w (kN w s):=by
 obtain⟨i0,hi,hz0,hz1,hz2⟩:=info_parts abO;have hs2:s.size<=9223372036854775807:=by unfold maxLen at hs;omega
 have HG:=Hq (λi w1=>MC s i hs w1);clear hs;go_in
 go_wp2_with fail;go_loopw [4,5] (λv at_ wr=>∃(a:Nat) (L:List gK),at_= .int .i64 a/\wr.ownsRow w.heap.size 100 11 v L.length (GR.flat nI L)/\aI w wr/\((s.size<=60000/\yU s a L)\/(60000 < s.size/\a=0/\L=[]))) (λ_ at_ _=>s.size - (intOf at_).toNat)
 case atStart=>
  refine⟨0,[],rfl,World.ownsRow_lit _ #[] 0 (Nat.le_refl _) Aae rfl,(Below.refl _ _).alloc (Nat.le_refl _) _,?_⟩;by_cases h:s.size<=60000
  .exact .inl ⟨h,Co s h⟩
  .exact .inr ⟨Aaa,rfl,rfl⟩
 case round=>
  obtain⟨a,L,rfl,hown,hbel,hcase⟩:=hrel;obtain⟨va,vc,rfl,_⟩:=GR.own_at (enc:=nI) (sz:=11) (l:=L) jP hown;have HOWN:=Hq hown;have cK:=Hq hbel;clear hown hbel;rcases hcase with⟨hsm,hS⟩|⟨hbig,rfl,rfl⟩
  case' inr=>
   have hb1:decide ((s.size:Int)<=60000)=false:=Aag
   go_wp2_with fail;exact bodyPost_ret (v:= .tuple #[.slice va 0 vc,.int .i64 0]) Acx rfl (WU HOWN cK hbig)
  have hb1:decide ((s.size:Int)<=60000)=true:=Aag
  have ha:=hS.2.1;have HS:=Hq hS;clear hS;by_cases h4:a+4 < s.size
  case' neg=>
   have hb2:decide ((4:Int) < (s.size:Int) - (a:Int))=false:=Aag
   have HST:=Hq (QO h4);go_wp2_with fail;exact bodyPost_ret (v:= .tuple #[.slice va L.length vc,.int .i64 a]) Acx rfl (Js HOWN cK HS HST (Below.refl _ _))
  have hb2:decide ((4:Int) < (s.size:Int) - (a:Int))=true:=Aag
  have h4i:(a:Int)+4 < (s.size:Int):=Aaa
  have hw4:IntKind.i64.wrap ((a:Int)+4)=(a:Int)+4:=IntWalk.i64_in _ ⟨Aaa,Aaa⟩;have hw5:0<=(a:Int)+4/\(a:Int)+4<=(s.size:Int):=Aaa
  have hw6:(a:Int)<=(a:Int)+4:=Aaa
  have hw7:((a:Int)+4).toNat=a+4:=Aaa
  have Gd:=Hq (λw1=>HG ((a:Int)+4) w1);have hTX:=Fq s ((a:Int)+4);have hEl:=TV s ((a:Int)+4);have akj:(jU s ((a:Int)+4)).size<=maxLen:=Nat.le_trans hTX Aai;have D7:=Hq (λw1=>Ye (jU s ((a:Int)+4)) akj w1);have HC:=Hq (λw1=>Ml (jU s ((a:Int)+4)) w1 akj);have e:(65536*(sums (jU s ((a:Int)+4)).data.toList).2+(sums (jU s ((a:Int)+4)).data.toList).1:Int)=(j6 (jU s ((a:Int)+4)):Int):=by unfold j6;omega
  rw [e] at HC;have HW:=Hq (λw1=>aeJ (j6 (jU s ((a:Int)+4))) (MI _) w1);have hspec:=acT s a h4;have Zh:=Hq (λh:Dk s a=true=>(show _/\_ from⟨FB HS h,sJ h⟩));unfold KJ at D7;have HOC:=Hq (show kE (jU s ((a:Int)+4))=true->getOp (jU s ((a:Int)+4))=opC (jU s ((a:Int)+4)) from λh=>by unfold getOp;rw [if_pos h]);clear e hTX akj HG;by_cases hE:je s ((a:Int)+4) < 0
  case' pos=>
   have HST:=Hq (show Dk s a=false by rw [hspec,decide_eq_false Aaa];rfl);have hd:decide (je s ((a:Int)+4) < 0)=true:=decide_eq_true hE;clear hspec Zh HOC;generalize je s ((a:Int)+4)=E at *;generalize lX (j6 (jU s ((a:Int)+4)))=bW at *;generalize j6 (jU s ((a:Int)+4))=nn at *;generalize kE (jU s ((a:Int)+4))=OK at *;exact awQ
  have hd:decide (je s ((a:Int)+4) < 0)=false:=decide_eq_false hE;have hd2:decide (0<=je s ((a:Int)+4))=true:=decide_eq_true Aaa;rw [hd2,Bool.true_and] at hspec;clear hd2;cases hok:kE (jU s ((a:Int)+4))
  case' false=>
   have HST:=Hq (show Dk s a=false by rw [hspec,hok];rfl);rw [hok] at D7;clear hspec Zh HOC hok;exact ahK
  rw [hok,Bool.true_and] at hspec;rw [hok] at D7;have hoc:=ah HOC hok;clear HOC hok;by_cases hq:s.extract a (a+4)=lX (j6 (jU s ((a:Int)+4)))
  case' neg=>
   have HST:=Hq (show Dk s a=false by rw [hspec,decide_eq_false hq])
   have hqq:((s.extract a (a+4)).toList == (lX (j6 (jU s ((a:Int)+4)))).toList)=false:=by
    rw [beq_eq_false_iff_ne];intro h;rw [ByteArray.toList_eq,ByteArray.toList_eq] at h;exact hq (ByteArray.ext (Array.ext' h))
   clear hspec Zh hq hoc;exact ahK
  have hqq:((s.extract a (a+4)).toList == (lX (j6 (jU s ((a:Int)+4)))).toList)=true:=by rw [hq];simp
  have hst:Dk s a=true:=by rw [hspec,decide_eq_true hq]
  obtain⟨hN1,_,hf1,hf2,hf3,hf4,_⟩:=ah Zh hst;have hE5:je s ((a:Int)+4)=((je s ((a:Int)+4)).toNat:Nat):=Aaa
  have hE6:a < (je s ((a:Int)+4)).toNat:=Aaa
  have hE7:(je s ((a:Int)+4)).toNat<=s.size:=Aaa
  rw [hf1,hf2,<-hoc] at hN1;have iH:=Hq hN1;have hd0:¬(((je s ((a:Int)+4)).toNat:Nat):Int) < 0:=Aaa
  rw [hE5] at Gd;clear hspec Zh hq hst hN1 hf1 hf2 hf3 hf4 hoc hd hE hE5 hEl;have hd:=decide_eq_false hd0;generalize (je s ((a:Int)+4)).toNat=E at *;generalize lX (j6 (jU s ((a:Int)+4)))=bW at *;generalize j6 (jU s ((a:Int)+4))=nn at *;open aAQ in exact av4
end Go.Proofs.YtohmklmkjmlpjaaGreatDoor
