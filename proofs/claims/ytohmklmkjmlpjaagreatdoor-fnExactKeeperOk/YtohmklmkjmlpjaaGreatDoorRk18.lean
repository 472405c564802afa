/- Parts. -/
import Derived.Test.YtohmklmkjmlpjaaGreatDoorRk17
import Derived.Test.YtohmklmkjmlpjaaGreatDoorRk13
namespace Go.Proofs.YtohmklmkjmlpjaaGreatDoor
open Go.Proofs.Tryz
set_option maxHeartbeats 4000000
set_option maxRecDepth 100000
open Go.RowKit Go.Maps
open Mth
abbrev kH (w:World) (sb mb:Nat) (low:Int):Prop:=w.heap[sb]?=some (.cells #[.int .i64 low,.map (some mb)] 293 (0,0))
theorem aC.of_keeps {g:Nat} {w w':World} (h:Keeps g w w'):aC [g] w w':=⟨h.os,h.tape,h.output,h.size,λk hk hg=>h.block k hk (by simpa using hg)⟩
theorem fC.ne {w:World} {sb mb n:Nat} {low:Int} {l:List Int} (h:fC w mb n l) (hs:kH w sb mb low):sb≠mb:=λe=>by
 obtain⟨D,⟨es,clock,hb,_⟩,_⟩:=h;unfold kH at hs;rw [e,hb] at hs;cases hs
theorem fC.far {w:World} {g mb n:Nat} {l:List Int} {cs:Array Value} {t:TypeId} {q:Nat×Nat} (h:fC w mb n l) (hs:w.heap[g]?=some (.cells cs t q)):g≠mb:=λe=>by
 obtain⟨D,⟨es,clock,hb,_⟩,_⟩:=h;rw [e,hb] at hs;cases hs
theorem akl (sb mb n:Nat) (low x:Int) (l:List Int) (w:World) (h0:0<=x) (h1:x<=1000000000) (hb:kH w sb mb low) (hs:fC w mb n l):
 Calls prog 247 #[.pointer (some ⟨sb,0,none⟩),.int .i64 x] w (eG w (.bool (decide (x < low)||decide (x∈l)))):=by
 have hsl:=aA hb;obtain⟨⟨m0,m1⟩,_⟩:=lW hb;have hrun:=hs.look x h0 h1;clear hb hs;cases hm:decide (x∈l)
 .rw [hm] at hrun;go_in
  exact Vf
 .rw [hm] at hrun;go_in
  exact Vf
theorem aeK (sb mb n:Nat) (ayI low L:Int) (l:List Int) (w:World) (hL:max ayI low=L) (hb:kH w sb mb ayI) (hs:fC w mb n l):
 Calls prog 246 #[.pointer (some ⟨sb,0,none⟩),.int .i64 low] w λe w'=>e= .returned (.tuple #[])/\kH w' sb mb L/\fC w' mb n (l.filter (λx=>decide (L<=x)))/\aC [sb,mb] w w':=by
 have hsl:=aA hb;have hml:=hs.lt;have hne:=hs.ne hb;have HB:=Hq hb;have HS:=Hq hs;obtain⟨⟨m0,m1⟩,f0,f1⟩:=lW hb;have HL:=Hq hL;clear hb hs hL;go_in
 go_upto_region 2 with fail;go_region
 rw [ah HL];go_upto_region 2 with fail;refine wp_at (λW hW=>?_);have hsz:(w.setCell ⟨sb,0,none⟩ (.int .i64 L)).heap.size=w.heap.size:=Aaq
 have e1:W.heap[w.heap.size]?=some (.cells #[.pointer (some ⟨sb,0,none⟩)] 264 (0,0)):=by
  rw [hW,<-hsz];exact heap_alloc_new _ _
 have e2:kH W sb mb L:=by
  have h1:(w.setCell ⟨sb,0,none⟩ (.int .i64 L)).heap[sb]?=some (.cells #[.int .i64 L,.map (some mb)] 293 (0,0)):=aN HB 0 (.int .i64 L);rw [hW];exact(Below.heap_alloc _ _ _ (by rw [hsz];exact hsl)).trans h1
 have e3:fC W mb n l:=HS.kept (by
  rw [hW]
  exact(Below.heap_alloc _ _ _ (by rw [hsz];exact hml)).trans (Below.heap_setCell _ _ _ _ hne.symm))
 have e4:aC [sb,mb] w W:=by
  rw [hW];refine⟨rfl,rfl,rfl,Aaq,λk hk hkn=>?_⟩;have h1:k≠sb:=λe=>hkn (by simp[e])
  exact(Below.heap_alloc _ _ _ (by rw [hsz];exact hk)).trans (Below.heap_setCell _ _ _ _ h1)
 have m0:W.cell? ⟨w.heap.size,0,none⟩=some (.pointer (some ⟨sb,0,none⟩)):=cell_of_row W _ 0 _ _ (0,0) e1;obtain⟨⟨m1,m2⟩,_⟩:=lW e2;have hwl:=aA e1;have hsl2:=aA e2;have HD:=Hq (aj7 w.heap.size sb mb n L l W e1 e2 e3);have E2:=Hq e2;have E4:=Hq e4;clear hW e1 e2 e3 e4 HB HS;go_wp2_with fail;refine HD.mono ?_;rintro e w' ⟨rfl,g1,g2⟩;have G1:=Hq g1;have G2:=Hq g2;clear g1 g2 HD m0 m1 m2;go_wp2_with fail;refine bodyPost_end (v:= .tuple #[]) (by simp[results,results246,go_sem]) rfl ⟨rfl,?_,G1,E4.trans ((aC.of_keeps G2).mono Aac)⟩;unfold kH;rw [(ah G2).block sb hsl2 hne];exact E2
theorem setOf (f low:Int) (a:Option Addr) (cap:Nat) (ids:List Int) (w:World) (hl:ids.length<=40) (hb:∀x∈ids,0<=x/\x<=1000000000) (ha:bX w a ids):
 Calls prog 245 #[.agg #[.int .i64 f,.int .i64 low,.slice a ids.length cap]] w λe w'=>∃sb mb,e= .returned (.pointer (some ⟨sb,0,none⟩))/\w.heap.size<=sb/\w.heap.size<=mb/\kH w' sb mb low/\fC w' mb ids.length ids/\aI w w':=by
 have hmm:= @run_makeMap prog;have HA:=Hq ha;have HBD:=Hq hb;clear ha hb;go_in
 go_wp2_with fail;go_loopw [14] (λi wr=>∃k:Nat,k<=ids.length/\i= .int .i64 k/\kH wr (w.heap.size+1+1) (w.heap.size+1) low/\fC wr (w.heap.size+1) k (ids.take k)/\aI w wr) (λi _=>ids.length - (intOf i).toNat)
 case atStart=>
  have hz:∀(u:World) (o:Obj),(u.alloc o).heap.size=u.heap.size+1:=λu o=>by simp
  have hM:=fC.made (w.alloc (.cells #[.int .i64 f,.int .i64 low,.slice a ids.length cap] 110));have hS:=heap_alloc_new ((w.alloc (.cells #[.int .i64 f,.int .i64 low,.slice a ids.length cap] 110)).alloc (.map #[] 0)) (.cells #[.int .i64 low,.map (some (w.heap.size+1))] 293);rw [hz] at hM;rw [hz,hz] at hS;refine⟨0,Nat.zero_le _,rfl,hS,?_,?_⟩
  .refine hM.kept ?_;exact Below.heap_alloc _ _ _ (by rw [hz,hz];omega)
  .exact((ay w _).alloc (by rw [hz];omega) _).alloc (by rw [hz,hz];omega) _
 case round=>
  obtain⟨k,hk,rfl,hS,hI,hbw⟩:=hrel;have HS:=Hq hS;have HI:=Hq hI;have iR:=Hq hbw;obtain⟨⟨m0,m1⟩,_⟩:=lW hS;have hsl:=aA hS;clear hS hI hbw hmm;by_cases hlt:k < ids.length
  .obtain⟨g,off,rfl,hgw,q0⟩:=bX.one (GR.At.below HA iR) k hlt;have HB:=Hq (HBD ids[k] (List.getElem_mem hlt));have HT:=Hq (show∀x,x∈ids[k]::ids.take k↔x∈ids.take (k+1) from λx=>by rw [List.take_succ_eq_append_getElem hlt,List.mem_cons,List.mem_append,List.mem_singleton,or_comm]);generalize ids[k]=ik at *;obtain⟨w2,hrun,hI2,hK2⟩:=HI.store ik HB.1 HB.2 Aai;have HI2:=Hq hI2;have sU:=Hq hK2;clear hI2 hK2;go_wp2_with fail;go_roundw
   case rel=>
    refine⟨k+1,Aaa,Aah,?_,HI2.same HT,?_⟩
    .unfold kH;rw [(ah sU).block _ hsl Aaa];exact HS
    .exact iR.trans ⟨sU.os,sU.tape,sU.output,sU.size,λj hj=>sU.block j (by have:=iR.size;omega) Aaa⟩
   case measure=>simp[intOf];omega
  .have hke:k=ids.length:=Aaa
   subst hke;have hnlt:decide ((ids.length:Int) < (ids.length:Int))=false:=Aac
   go_wp2_with fail;go_ret;refine⟨_,_,rfl,Aaa,Aaa,HS,?_,iR⟩;have h:=ah HI;rwa [List.take_length] at h
open Go.RowKit
theorem Below.setNew {B g i:Nat} {w w':World} {v:Value} (h:Below B w w') (hg:B<=g):Below B w (w'.setCell ⟨g,i,none⟩ v):=
 ⟨h.os,h.tape,h.output,by simpa [World.setCell] using h.size,λk hk=>by
  have hkg:k≠g:=Aaa
  rw [Below.heap_setCell _ _ _ _ hkg]
  exact h.block k hk⟩
theorem uj {w:World} {g:Nat} {cs:Array Value} {t:TypeId} (h:w.heap[g]?=some (.cells cs t (0,0))) (i:Nat):w.frozen? ⟨g,i,none⟩=false:=by unfold World.frozen?;rw [h];simp
theorem kQ (w:World) (a b:Obj):((w.alloc a).alloc b).heap[w.heap.size]?=some a/\((w.alloc a).alloc b).heap[w.heap.size+1]?=some b:=by
 have h1:=aK (heap_alloc_new w a) (ay (w.alloc a) b);have h2:=heap_alloc_new (w.alloc a) b;rw [show(w.alloc a).heap.size=w.heap.size+1 by simp] at h2;exact⟨h1,h2⟩
theorem jv (w:World) (a b:Obj):Below w.heap.size w ((w.alloc a).alloc b):=(ay w a).alloc Aac b
theorem Dv {w:World} {g:Nat} {v0 v1 v2 v3 v4 v5 v6 v7 v8 v9 v10:Value} {t:TypeId} (h:w.heap[g]?=some (.cells #[v0,v1,v2,v3,v4,v5,v6,v7,v8,v9,v10] t (0,0))):
 w.cell? ⟨g,0,none⟩=some v0/\w.cell? ⟨g,1,none⟩=some v1/\w.cell? ⟨g,2,none⟩=some v2/\w.cell? ⟨g,3,none⟩=some v3/\w.cell? ⟨g,4,none⟩=some v4/\w.cell? ⟨g,5,none⟩=some v5/\w.cell? ⟨g,6,none⟩=some v6/\w.cell? ⟨g,7,none⟩=some v7/\w.cell? ⟨g,8,none⟩=some v8/\w.cell? ⟨g,9,none⟩=some v9/\w.cell? ⟨g,10,none⟩=some v10:=by
 exact ahw
theorem He (no:Int) (k:ByteArray) (n:Int) (m:Mg) (w:World):Calls prog 173 #[jG ⟨0,no,k,n,m⟩] w (eG w (.bool (cu ⟨0,no,k,n,m⟩))):=by
 obtain⟨mK,mF,mT,mI,mL,mk,mN⟩:=m;obtain⟨R,hR⟩:∃R,cu ⟨0,no,k,n,⟨mK,mF,mT,mI,mL,mk,mN⟩⟩=R:=⟨_,rfl⟩;rw [hR];have HR:=Hq hR;clear hR;cases hk:keyOk k.data.toList
 .exact ajO
 .have HK:=Hq (λw1=>iw k true w1 hk);cases hn:fF n
  .exact ajX
  .open amG in exact ajv
theorem Hg (no:Int) (k:ByteArray) (n:Int) (m:Mg) (w:World):Calls prog 173 #[jG ⟨3,no,k,n,m⟩] w (eG w (.bool (cu ⟨3,no,k,n,m⟩))):=by
 obtain⟨mK,mF,mT,mI,mL,mk,mN⟩:=m;obtain⟨R,hR⟩:∃R,cu ⟨3,no,k,n,⟨mK,mF,mT,mI,mL,mk,mN⟩⟩=R:=⟨_,rfl⟩;rw [hR];have HR:=Hq hR;clear hR;cases hk:keyOk k.data.toList
 .exact ajO
 .have HK:=Hq (λw1=>iw k true w1 hk);cases hn:fF n
  .exact ajX
  .open amF in exact ajv
theorem GX (no:Int) (k:ByteArray) (n:Int) (m:Mg) (w:World):Calls prog 173 #[jG ⟨4,no,k,n,m⟩] w (eG w (.bool (cu ⟨4,no,k,n,m⟩))):=by
 obtain⟨mK,mF,mT,mI,mL,mk,mN⟩:=m;obtain⟨R,hR⟩:∃R,cu ⟨4,no,k,n,⟨mK,mF,mT,mI,mL,mk,mN⟩⟩=R:=⟨_,rfl⟩;rw [hR];have HR:=Hq hR;clear hR;cases hk:keyOk k.data.toList
 .exact ajO
 .have HK:=Hq (λw1=>iw k true w1 hk);cases hn:fF n
  .exact ajX
  .open amE in exact ajv
theorem EG (no:Int) (k:ByteArray) (n:Int) (m:Mg) (w:World):Calls prog 173 #[jG ⟨1,no,k,n,m⟩] w (eG w (.bool (cu ⟨1,no,k,n,m⟩))):=by
 obtain⟨mK,mF,mT,mI,mL,mk,mN⟩:=m;obtain⟨R,hR⟩:∃R,cu ⟨1,no,k,n,⟨mK,mF,mT,mI,mL,mk,mN⟩⟩=R:=⟨_,rfl⟩;rw [hR];have HR:=Hq hR;clear hR;cases ho:fF no
 .have HO:=Hq (λw1=>aP no false w1 ho);cases hk:keyOk k.data.toList
  .have HK:=Hq (λw1=>iw k false w1 hk);cases hn:fF n
   .have HN:=Hq (λw1=>aP n false w1 hn);have HP:=Hq (show R=(false&&false&&false&&lF ⟨mK,mF,mT,mI,mL,mk,mN⟩) by rw [<-ah HR];simp[cu,ho,hk,hn]);exact R5
   .have HN:=Hq (λw1=>aP n true w1 hn);have HP:=Hq (show R=(false&&false&&true&&lF ⟨mK,mF,mT,mI,mL,mk,mN⟩) by rw [<-ah HR];simp[cu,ho,hk,hn]);exact R5
  .have HK:=Hq (λw1=>iw k true w1 hk);cases hn:fF n
   .have HN:=Hq (λw1=>aP n false w1 hn);have HP:=Hq (show R=(false&&true&&false&&lF ⟨mK,mF,mT,mI,mL,mk,mN⟩) by rw [<-ah HR];simp[cu,ho,hk,hn]);exact R5
   .have HN:=Hq (λw1=>aP n true w1 hn);have HP:=Hq (show R=(false&&true&&true&&lF ⟨mK,mF,mT,mI,mL,mk,mN⟩) by rw [<-ah HR];simp[cu,ho,hk,hn]);exact R5
 .have HO:=Hq (λw1=>aP no true w1 ho);cases hk:keyOk k.data.toList
  .have HK:=Hq (λw1=>iw k false w1 hk);cases hn:fF n
   .have HN:=Hq (λw1=>aP n false w1 hn);have HP:=Hq (show R=(true&&false&&false&&lF ⟨mK,mF,mT,mI,mL,mk,mN⟩) by rw [<-ah HR];simp[cu,ho,hk,hn]);exact R5
   .have HN:=Hq (λw1=>aP n true w1 hn);have HP:=Hq (show R=(true&&false&&true&&lF ⟨mK,mF,mT,mI,mL,mk,mN⟩) by rw [<-ah HR];simp[cu,ho,hk,hn]);exact R5
  .have HK:=Hq (λw1=>iw k true w1 hk);cases hn:fF n
   .have HN:=Hq (λw1=>aP n false w1 hn);have HP:=Hq (show R=(true&&true&&false&&lF ⟨mK,mF,mT,mI,mL,mk,mN⟩) by rw [<-ah HR];simp[cu,ho,hk,hn]);exact R5
   .have HN:=Hq (λw1=>aP n true w1 hn);have HP:=Hq (show R=(true&&true&&true&&lF ⟨mK,mF,mT,mI,mL,mk,mN⟩) by rw [<-ah HR];simp[cu,ho,hk,hn]);open arS in exact afQ
theorem Bp (no:Int) (k:ByteArray) (n:Int) (m:Mg) (w:World):Calls prog 173 #[jG ⟨2,no,k,n,m⟩] w (eG w (.bool (cu ⟨2,no,k,n,m⟩))):=by
 obtain⟨mK,mF,mT,mI,mL,mk,mN⟩:=m;obtain⟨R,hR⟩:∃R,cu ⟨2,no,k,n,⟨mK,mF,mT,mI,mL,mk,mN⟩⟩=R:=⟨_,rfl⟩;rw [hR];have HR:=Hq hR;clear hR;cases ho:fF no
 .have HO:=Hq (λw1=>aP no false w1 ho);have HP:=Hq (show R=(decide (k.toList=[])&&decide (n=0)&&false&&lF ⟨mK,mF,mT,mI,mL,mk,mN⟩) by rw [<-ah HR];simp[cu,ho]);clear HR;clear ho;go_in
  go_wp2_with (first|(go_at_call_of 169 no;refine(HO _).mono ?_;rintro e w1 ⟨rfl,rfl⟩))
  go_ret;exact⟨aF (by rw [ah HP];simp),by first|exact jv w _ _|exact Below.setNew (jv w _ _) Aaa⟩
 .have HO:=Hq (λw1=>aP no true w1 ho);have HP:=Hq (show R=(decide (k.toList=[])&&decide (n=0)&&true&&lF ⟨mK,mF,mT,mI,mL,mk,mN⟩) by rw [<-ah HR];simp[cu,ho]);clear HR;clear ho;go_in
  go_upto_region 23 with(first|(go_at_call_of 169 no;refine(HO _).mono ?_;rintro e w1 ⟨rfl,rfl⟩))
  open atv in exact U9
theorem Hf (no:Int) (k:ByteArray) (n:Int) (m:Mg) (w:World):Calls prog 173 #[jG ⟨5,no,k,n,m⟩] w (eG w (.bool (cu ⟨5,no,k,n,m⟩))):=by
 open asq in exact afX
theorem GZ (no:Int) (k:ByteArray) (n:Int) (m:Mg) (w:World):Calls prog 173 #[jG ⟨6,no,k,n,m⟩] w (eG w (.bool (cu ⟨6,no,k,n,m⟩))):=by
 have HM:=Hq (λw1=>Jw m w1);open atK in exact agp
theorem GY (K no:Int) (k:ByteArray) (n:Int) (m:Mg) (w:World) (h0:¬K=0) (h1:¬K=1) (h2:¬K=2) (h3:¬K=3) (h4:¬K=4) (h5:¬K=5) (h6:¬K=6):Calls prog 173 #[jG ⟨K,no,k,n,m⟩] w (eG w (.bool (cu ⟨K,no,k,n,m⟩))):=by
 have HP:=Hq (show cu ⟨K,no,k,n,m⟩=false by simp[cu,h0,h1,h2,h3,h4,h5,h6]);obtain⟨mK,mF,mT,mI,mL,mk,mN⟩:=m;go_in
 go_wp2_with fail;go_ret;exact⟨aF HP.symm,jv w _ _⟩
theorem Pg (o:gK) (w:World):Calls prog 173 #[jG o] w (eG w (.bool (cu o))):=by
 obtain⟨K,no,k,n,m⟩:=o;by_cases h0:K=0
 .subst h0;exact He no k n m w
 by_cases h1:K=1
 .subst h1;exact EG no k n m w
 by_cases h2:K=2
 .subst h2;exact Bp no k n m w
 by_cases h3:K=3
 .subst h3;exact Hg no k n m w
 by_cases h4:K=4
 .subst h4;exact GX no k n m w
 by_cases h5:K=5
 .subst h5;exact Hf no k n m w
 by_cases h6:K=6
 .subst h6;exact GZ no k n m w
 exact GY K no k n m w h0 h1 h2 h3 h4 h5 h6
theorem Xl (o:gK) (w:World):Calls prog 229 #[jG o] w (eG w (.bool (cu o))):=by
 have HO:=Hq (λw1=>Pg o w1);generalize cu o=r at *;obtain⟨K,no,k,n,⟨mK,mF,mT,mI,mL,mk,mN⟩⟩:=o;go_in
 exact ahy
theorem Uy {w:World} {b off:Nat} {l:List Pu} (h:aG w (some ⟨b,off,none⟩) l) (k:Nat):aG w (some ⟨b,off+k*4,none⟩) (l.drop k):=λi hi=>by
 have hi':k+i < l.length:=Abw
 obtain⟨g,o,e,hg,hc⟩:=h (k+i) hi';injection e with e
 injection e with e1 e2
 subst e1 e2;refine⟨b,off+k*4,rfl,hg,λj hj=>?_⟩;have:=hc j hj;rw [show off+k*4+(i*4+j)=off+((k+i)*4+j) by omega,this];simp
theorem adi {w:World} {a:Option Addr} {l:List Pu} (h:aG w a l) (k:Nat):aG w a (l.take k):=λi hi=>by
 have hi':i < l.length:=Abw
 obtain⟨g,o,e,hg,hc⟩:=h i hi';refine⟨g,o,e,hg,λj hj=>?_⟩;rw [hc j hj];simp
theorem Uz {w:World} {a:Option Addr} {l:List Pu} (h:l=[]):aG w a l:=λi hi=>by rw [h] at hi;simp at hi
theorem Mth.tail_found {l:List Pu} {k:ByteArray} (h:found l k=true):place l k < l.length/\kC l k=l.drop (place l k+1):=by
 have hpl:=lT l k;by_cases hlt:place l k < l.length
 .refine⟨hlt,?_⟩;unfold found at h;unfold kC;rw [jw,List.drop_eq_getElem_cons hlt] at h ⊢;dsimp only at h ⊢;rw [if_pos h]
 .unfold found at h;rw [jw,List.drop_eq_nil_of_le Aaa] at h;cases h
theorem Mth.tail_not {l:List Pu} {k:ByteArray} (h:found l k=false):kC l k=l.drop (place l k):=by
 unfold found at h;unfold kC;rw [jw] at h ⊢;cases hd:l.drop (place l k) with
 |nil=>rfl
 |cons q r=>
  rw [hd] at h;dsimp only at h ⊢;rw [h];rfl
theorem Mth.put_flat (l:List Pu) (p:Pu):GR.flat gu (l.take (place l p.k))++gu p++GR.flat gu (kC l p.k)=GR.flat gu (jd l p)/\place l p.k+1+(kC l p.k).length=(jd l p).length:=by
 have hpl:=lT l p.k;unfold jd;rw [head_take];constructor
 .rw [GR.flat_append,GR.flat_cons,List.append_assoc]
 .simp;omega
theorem Mth.put_mem' {l:List Pu} {p q:Pu} (h:q∈jd l p):q=p\/q∈l:=by
 exact ahh
theorem Mth.tail_len (l:List Pu) (k:ByteArray):(kC l k).length<=l.length:=by
 cases h:found l k
 .rw [tail_not h];simp
 .rw [(tail_found h).2];simp
theorem nZ {P:Program} (w:World) {ops:Array Oper} {o:Oper} {a:Act} {K:Act->World->Prop} {Q:Exit->Act->World->Prop} {E:Prop} (hgd:o.guard=none) (s x:Operand) (t:TypeId)
 (ho:o.op= .call {callee:= .builtin .append,args:=#[s,x],argTypes:=#[t,t]})
 (base:Nat) (e:TypeId) (i:TypeInfo) (z:Value) (size bytes:Nat) (ht:P.underlying t=some (.slice e)) (hi:P.info? e=some i) (hz:i.zero=some z)
 (hsize:i.size=size) (hby:i.bytes=bytes) (hzs:z.cells.size=size) (hsz:0 < size)
 (v:Value) (n:Nat) (xs:List Value) (hs:a.eval s=v) (hown:w.ownsRow base e size v n xs)
 (ad:Addr) (m c:Nat) (news:List Value) (hx:a.eval x= .slice (some ad) m c) (hl:news.length=m*size) (hnews:∀j u,news[j]?=some u->w.cell? (ad.add j)=some u) (h1:∀u∈news,u.oneCell'=true)
 (h63:n+m<=maxLen) (hbytes:(n+m)*bytes<=140737488355328) (hbase:base<=w.heap.size)
 (h:∀v' w',w'.ownsRow base e size v' (n+m) (xs++news)->w.grownBy w' v.ownBlock->(v'= .slice none 0 0↔v= .slice none 0 0/\m=0)->K (a.put o.dst v') w'):
 if Region.wanted o (yielded ops a.tmps)=true then Oper.wp P o a w K Q else E:=by
 exact ahe
theorem tN {w w':World} {B:Nat} {row:Option Nat} (hk:w.grownBy w' row) (hg:∀k,row=some k->B<=k) (hB:B<=w.heap.size):Below B w w':=⟨hk.os,hk.tape,hk.output,hk.size,λk hl=>hk.block k Aaa (λe=>by have:=hg k e.symm;omega)⟩
theorem Jo (p:Pu):∀u∈gu p,u.oneCell'=true:=by
 intro u hu;simp only[gu,List.mem_cons,List.not_mem_nil,or_false] at hu;rcases hu with rfl|rfl|rfl|rfl<;>rfl
theorem acs (v:Value):v.ownBlock=none\/v.ownBlock≠none:=by
 exact aiA
theorem AV (w:World) (a b:Nat):(w.drewN a).drewN b=w.drewN (a+b):=by
 simp[World.drewN,Nat.add_assoc]
theorem Mth.place_at (l:List Pu) (key:ByteArray) (k:Nat) (hk:k<=l.length) (h1:∀q∈l.take k,Op.bytesLess q.k.toList key.toList=true) (h2:∀h:k < l.length,Op.bytesLess l[k].k.toList key.toList=false):place l key=k/\kJ l key=l.drop k:=by
 obtain⟨e1,e2⟩:=ac8 (λq=>Op.bytesLess q.k.toList key.toList) l k hk h1 h2;unfold place rG kJ;rw [e1,e2];exact⟨Aag,rfl⟩
theorem TA (b off:Nat) (cap:Nat) (l:List Pu) (p:Pu) (n:Int) (w:World) (hcap:l.length<=cap) (hk:∀p∈l,p.k.size<=maxLen) (hpk:p.k.size<=maxLen) (ha:aG w (some ⟨b,off,none⟩) l) (hok:jk l=true) (hn:1<=n/\n<=1000000000):
 Calls prog 182 #[.slice (some ⟨b,off,none⟩) l.length cap,wS p,.int .i64 n] w λe w'=>∃v,e= .returned (.tuple #[v,.bool (qQ l p n).2])/\v≠ .slice none 0 0/\w'.ownsRow w.heap.size 108 4 v (qQ l p n).1.length (GR.flat gu (qQ l p n).1)/\aI w w':=by
 have hl:l.length<=20:=((jR l).1 hok).2.2;have nS:=Hq (λw1 (h:aG w1 (some ⟨b,off,none⟩) l)=>oH (some ⟨b,off,none⟩) cap l w1 Aaa hk h);have HA:=Hq ha;have hn2:decide (xJ n 1 1000000000)=true:=decide_eq_true hn;have HW:=Hq (show qQ l p n=if jk (jd l p) then(jd l p,true) else(l,false) by unfold qQ;rw [hok,decide_eq_true hn];rfl);clear ha hn;obtain⟨pk,pm,pf,ps⟩:=p;go_in
 go_wp2_with fail;refine(nS _ (GR.At.below HA (dS w _))).mono ?_;rintro e w1 ⟨rfl,hb1⟩;have yO:=Hq (show w1.heap[w.heap.size]?=some (.cells (iW pk pm pf ps) 108 (0,0)) by rw [hb1.block w.heap.size Aac];exact heap_alloc_new w _);have HB1:=Hq ((dS w _).trans (hb1.mono (dS w _).size))
 have hbw:b < w1.heap.size\/l.length=0:=by
  rcases Nat.eq_zero_or_pos l.length with h|h
  .exact .inr h
  .obtain⟨g,o,e,hg,_⟩:=ah HA 0 h;injection e with e
   injection e with e1 e2
   subst e1;exact .inl (Nat.lt_of_lt_of_le hg HB1.size)
 clear hb1;rw [hok];clear hok;go_wp2_with fail;refine(Tw _ _ _ _).mono ?_;rintro e w3 ⟨rfl,rfl⟩;rw [hn2];go_upto_block 0 with fail;go_cut [8] (λi wx=>i= .int .i64 (place l pk:Nat)/\∃q,wx=w1.drewN q)
 case first=>
  go_wp2_with fail;go_loopw [8] (λi wr=>∃k q:Nat,k<=l.length/\i= .int .i64 k/\(∀x∈l.take k,Op.bytesLess x.k.toList pk.toList=true)/\wr=w1.drewN q) (λi _=>l.length - (intOf i).toNat)
  case atStart=>exact⟨0,0,Nat.zero_le _,rfl,λx hx=>Abr,rfl⟩
  case round=>
   obtain⟨k,q,hk1,rfl,hall,rfl⟩:=hrel;have kS:=Hq hall;clear hall;open arZ in exact afR
 case rest=>
  obtain⟨rfl,q,rfl⟩:=hcut;have hpl:=lT l pk
  obtain⟨ad,hAd,hAe⟩:∃ad:Addr,(if cap=place l pk then some (⟨b,off,none⟩:Addr) else some ⟨b,off+place l pk*4,none⟩)=some ad/\(place l pk < l.length->ad=⟨b,off+place l pk*4,none⟩):=by
   by_cases h:cap=place l pk
   .rw [if_pos h];exact⟨_,rfl,λh2=>Aaa⟩
   .rw [if_neg h];exact⟨_,rfl,λ_=>rfl⟩
  open arY in exact afR
def iY (w:World) (r:List Pu×Bool) (e:Ending) (w':World):Prop:=∃v,e= .returned (.tuple #[v,.bool r.2])/\v≠ .slice none 0 0/\w'.ownsRow w.heap.size 108 4 v r.1.length (GR.flat gu r.1)/\aI w w'
theorem Mth.purseOf_am {l:List Pu} {key:ByteArray} (h:jk l=true):(0<=(aD l key).m/\(aD l key).m<=1000000000)/\(0<=(aD l key).f/\(aD l key).f<=1000000000)/\(0<=(aD l key).s/\(aD l key).s<=1000000000):=by
 obtain⟨h1,_,_⟩:=(jR l).1 h;unfold aD;cases hf:l.find? (λp=>p.k.toList == key.toList) with
 |none=>simp
 |some q=>
  have hq:=h1 q (List.mem_of_find?_eq_some hf);unfold iy at hq;simp only[Bool.and_eq_true] at hq;exact⟨of_decide_eq_true hq.1.1.1.2,of_decide_eq_true hq.1.1.2,of_decide_eq_true hq.1.2⟩
theorem ES (b off cap:Nat) (l:List Pu) (key:ByteArray) (dm df ds n:Int) (w:World) (hl:l.length<=1048600) (hcap:l.length<=cap) (hk:∀p∈l,p.k.size<=1048576) (hkey:key.size<=1048576)
 (hd1:dm= -1\/dm=0\/dm=1) (hd2:df= -1\/df=0\/df=1) (hd3:ds= -1\/ds=0\/ds=1) (ha:aG w (some ⟨b,off,none⟩) l):
 Calls prog 145 #[.slice (some ⟨b,off,none⟩) l.length cap,.string key,.int .i64 dm,.int .i64 df,.int .i64 ds,.int .i64 n] w (iY w (dJ l key dm df ds n)):=by
 have hkm:∀p∈l,p.k.size<=maxLen:=λp hp=>by have:=hk p hp;unfold maxLen;omega
 have Jd:=Hq (vM (some ⟨b,off,none⟩) cap l key w hl ha);have HA:=Hq ha;unfold iY;by_cases hin:jk l=true/\1<=n/\n<=1000000000
 .obtain⟨hok,hn1,hn2⟩:=hin;obtain⟨⟨m0,m1⟩,⟨f0,f1⟩,s0,s1⟩:=purseOf_am (key:=key) hok;obtain⟨u10,u11⟩:=sQ hd1 ⟨hn1,hn2⟩;obtain⟨u20,u21⟩:=sQ hd2 ⟨hn1,hn2⟩;obtain⟨u30,u31⟩:=sQ hd3 ⟨hn1,hn2⟩;have hpk:=oV l key;have HWI:=Hq (λw1 (hb:aI w w1)=>TA b off cap l (eP (aD l key) dm df ds n) n w1 hcap hkm (by show(aD l key).k.size<=maxLen;rw [hpk];unfold maxLen;omega) (GR.At.below ha hb) hok ⟨hn1,hn2⟩);have hAm:decide (xJ n 0 1000000000)=true:=decide_eq_true ⟨Aaa,hn2⟩;unfold dJ;clear ha hok hk hkm hd1 hd2 hd3;unfold eP at *;generalize aD l key=p at *;obtain⟨pk,pm,pf,ps⟩:=p;dsimp only at *;subst hpk;generalize qQ l ⟨pk,pm+dm*n,pf+df*n,ps+ds*n⟩ n=r at *;go_in
  go_wp2_with fail;refine Jd.mono ?_;rintro e w1 ⟨rfl,hb1⟩;have HB1:=Hq hb1;clear hb1 Jd;go_wp2_with (go_at_call 50;refine(wu _ _).mono ?_;rintro e w2 ⟨rfl,rfl⟩;rw [hAm])
  refine(HWI _ (HB1.alloc HB1.size _)).mono ?_;rintro e w3 ⟨v,rfl,hv,hown,hb3⟩;have HB3:=Hq ((HB1.alloc HB1.size _).trans (hb3.mono (by have:=HB1.size;simp;omega)));have I8:=Hq (own_lower (b':=w.heap.size) hown (by have:=HB1.size;simp;omega));have HV:=Hq hv;clear hb3 hown hv;go_wp2_with fail;exact bodyPost_ret (v:= .tuple #[v,.bool r.2]) (by simp[results,results145,go_sem]) rfl ⟨v,rfl,HV,I8,HB3⟩
 .have hno:jk l=false\/¬(1<=n/\n<=1000000000):=by
   cases h:jk l
   .exact .inl rfl
   .exact .inr (λhn=>hin ⟨h,hn⟩)
  have HAD:=Hq (show dJ l key dm df ds n=(l,false) by
   rcases hno with h|h
   .exact Jj h
   .exact Kt h)
  have HWN:=Hq (λp w1 (hb:aI w w1)=>PG (some ⟨b,off,none⟩) cap l p n w1 hl hkm (λh=>Aat) (GR.At.below ha hb) hno);rw [ah HAD];clear ha hin hno hk hkm hd1 hd2 hd3 HAD;generalize aD l key=p at *;obtain⟨pk,pm,pf,ps⟩:=p;cases hAm:decide (xJ n 0 1000000000)
  all_goals
   go_in
   go_wp2_with fail
   refine Jd.mono ?_
   rintro e w1 ⟨rfl,hb1⟩
   have HB1:=Hq hb1
   clear hb1 Jd
   go_wp2_with (go_at_call 50;refine(wu _ _).mono ?_;rintro e w2 ⟨rfl,rfl⟩;rw [hAm])
   refine(HWN ⟨_,_,_,_⟩ _ (HB1.alloc HB1.size _)).mono ?_
   rintro e w3 ⟨v,rfl,hv,hown,hb3⟩
   have HB3:=Hq ((HB1.alloc HB1.size _).trans (hb3.mono (by have:=HB1.size;simp;omega)))
   have I8:=Hq (own_lower (b':=w.heap.size) hown (by have:=HB1.size;simp;omega))
   have HV:=Hq hv
   clear hb3 hown hv
   go_wp2_with fail
   exact bodyPost_ret (v:= .tuple #[v,.bool false]) (by simp[results,results145,go_sem]) rfl ⟨v,rfl,HV,I8,HB3⟩
theorem FI (b off cap:Nat) (l:List Pu) (key:ByteArray) (n:Int) (w:World) (hl:l.length<=1048600) (hcap:l.length<=cap) (hk:∀p∈l,p.k.size<=1048576) (hkey:key.size<=1048576) (ha:aG w (some ⟨b,off,none⟩) l):
 Calls prog 106 #[.slice (some ⟨b,off,none⟩) l.length cap,.string key,.int .i64 n] w (iY w (dJ l key (1) (1) (0) n)):=by
 have H:=Hq (ES b off cap l key (1) (1) (0) n w hl hcap hk hkey Aaa Aaa Aaa ha);clear ha hk;generalize dJ l key (1) (1) (0) n=r at *;unfold iY at *;go_in
 open aqc in exact aal
theorem acM (b off cap:Nat) (l:List Pu) (key:ByteArray) (n:Int) (w:World) (hl:l.length<=1048600) (hcap:l.length<=cap) (hk:∀p∈l,p.k.size<=1048576) (hkey:key.size<=1048576) (ha:aG w (some ⟨b,off,none⟩) l):
 Calls prog 184 #[.slice (some ⟨b,off,none⟩) l.length cap,.string key,.int .i64 n] w (iY w (dJ l key (0) (1) (0) n)):=by
 have H:=Hq (ES b off cap l key (0) (1) (0) n w hl hcap hk hkey Aaa Aaa Aaa ha);clear ha hk;generalize dJ l key (0) (1) (0) n=r at *;unfold iY at *;go_in
 open aqb in exact aal
theorem acO (b off cap:Nat) (l:List Pu) (key:ByteArray) (n:Int) (w:World) (hl:l.length<=1048600) (hcap:l.length<=cap) (hk:∀p∈l,p.k.size<=1048576) (hkey:key.size<=1048576) (ha:aG w (some ⟨b,off,none⟩) l):
 Calls prog 152 #[.slice (some ⟨b,off,none⟩) l.length cap,.string key,.int .i64 n] w (iY w (dJ l key (0) (-1) (0) n)):=by
 have H:=Hq (ES b off cap l key (0) (-1) (0) n w hl hcap hk hkey Aaa Aaa Aaa ha);clear ha hk;generalize dJ l key (0) (-1) (0) n=r at *;unfold iY at *;go_in
 open aqa in exact aal
theorem Yh (b off cap:Nat) (l:List Pu) (key:ByteArray) (n:Int) (w:World) (hl:l.length<=1048600) (hcap:l.length<=cap) (hk:∀p∈l,p.k.size<=1048576) (hkey:key.size<=1048576) (ha:aG w (some ⟨b,off,none⟩) l):
 Calls prog 147 #[.slice (some ⟨b,off,none⟩) l.length cap,.string key,.int .i64 n] w (iY w (dJ l key (0) (-1) (1) n)):=by
 have H:=Hq (ES b off cap l key (0) (-1) (1) n w hl hcap hk hkey Aaa Aaa Aaa ha);clear ha hk;generalize dJ l key (0) (-1) (1) n=r at *;unfold iY at *;go_in
 open ap9 in exact aal
theorem QN (b off cap:Nat) (l:List Pu) (key:ByteArray) (n:Int) (w:World) (hl:l.length<=1048600) (hcap:l.length<=cap) (hk:∀p∈l,p.k.size<=1048576) (hkey:key.size<=1048576) (ha:aG w (some ⟨b,off,none⟩) l):
 Calls prog 148 #[.slice (some ⟨b,off,none⟩) l.length cap,.string key,.int .i64 n] w (iY w (dJ l key (0) (1) (-1) n)):=by
 have H:=Hq (ES b off cap l key (0) (1) (-1) n w hl hcap hk hkey Aaa Aaa Aaa ha);clear ha hk;generalize dJ l key (0) (1) (-1) n=r at *;unfold iY at *;go_in
 open ap8 in exact aal
theorem Qp:∀(vs pre xs:List Value),xs.length=vs.length->GR.setRun (pre++xs) pre.length vs=pre++vs:=by
 intro vs;induction vs with
 |nil=>intro pre xs h;rw [List.eq_nil_of_length_eq_zero h];rfl
 |cons v vs ih=>
  intro pre xs h;cases xs with
  |nil=>simp at h
  |cons x xs=>
   show GR.setRun ((pre++x::xs).set pre.length v) (pre.length+1) vs=pre++v::vs
   have e:(pre++x::xs).set pre.length v=(pre++[v])++xs:=Aac
   have h2:=ih (pre++[v]) xs Abc;rw [e];simpa using h2
theorem X9 {w:World} {g:Nat} {t:TypeId} (vs xs:List Value) (hl:xs.length=vs.length) (h:w.heap[g]?=some (.cells xs.toArray t (0,0))):(GR.setW w g 0 vs).heap[g]?=some (.cells vs.toArray t (0,0)):=by
 have h1:=GR.setW_blk vs (o:=0) h;have h2:=Qp vs [] xs hl;simp only[List.nil_append,List.length_nil] at h2;rw [h2] at h1;exact h1
section
variable {P:Program} {ops:Array Oper} {Q:Exit->Act->World->Prop} {md:Region.Mode} {E r:Nat}
def jF (P:Program) (md:Region.Mode) (ops:Array Oper) (Q:Exit->Act->World->Prop) (E r:Nat):Nat->Array Bool->Act->World->Prop
 |0,listed,a,w=>Region.ready md ops listed=[]/\∀x,Ge w x->Q .normal a x
 |fuel+1,listed,a,w=>∀x,Ge w x->(Region.ready md ops listed=[]->Q .normal a x)/\∀i∈Region.ready md ops listed,
  (i=E->wpOp P ops Q i (λa' y=>wpAny P md ops Q fuel (listed.setIfInBounds i true) a' y) a x)/\
  (i≠E->wpOp P ops Q i (λa' y=>aC [r] x y/\jF P md ops Q E r fuel (listed.setIfInBounds i true) a' y) a x)
theorem CG {fuel:Nat} {listed:Array Bool} {a:Act} {w x:World} (hx:Ge w x) (h:jF P md ops Q E r fuel listed a w):jF P md ops Q E r fuel listed a x:=by
 exact adY
theorem xG:∀(fuel:Nat) (listed:Array Bool) (a:Act) (w:World),jF P md ops Q E r fuel listed a w->wpAny P md ops Q fuel listed a w
 |0,_,_,w,h=>⟨h.1,h.2 w (Below.refl _ _)⟩
 |fuel+1,_,_,w,h=>⟨(h w (Below.refl _ _)).1,λi hi=>by
  by_cases hE:i=E
  .exact((h w (Below.refl _ _)).2 i hi).1 hE
  .exact wpOp_mono (λa' y hy=>xG fuel _ a' y hy.2) (((h w (Below.refl _ _)).2 i hi).2 hE)⟩
def Du (P:Program) (ops:Array Oper) (r:Nat) (o:Oper) (v:Value) (a:Act) (w:World):Prop:=
 (Region.wanted o (yielded ops a.tmps)=true/\∀x,aC [r] w x->Oper.quietUpon P (Ge x) x v ((execOp a.eval o).run P x))\/(Region.wanted o (yielded ops a.tmps)=false/\v=undef)
theorem Du.toG {o:Oper} {v:Value} {a:Act} {w:World} (h:Du P ops r o v a w):oC P ops o v a w:=h.imp (fun⟨p,q⟩=>⟨p,λx hx=>q x (aC.of_below hx)⟩) id
theorem uD {i:Nat} {oi:Oper} {v:Value} (n:Nat) (hi:ops[i]?=some oi) (hE:i∈Jk md ops E n) (hsel:∀(j:Nat) (o:Oper) cs b,ops[j]?=some o->o.op≠ .select cs b) (hQ:∀c a w,Q (.panic c) (a.put oi.dst v) w->Q (.panic c) a w):
 ∀(fuel:Nat) (listed:Array Bool) (a:Act) (w:World),oz md ops listed->
  (∀j oj,ops[j]?=some oj->j≠i->listed.getD j true=false->(∀e∈oj.after,Region.binds md e=true->e.on≠i)->oi.apart ops oj=true)->
  i∈Region.ready md ops listed->Du P ops r oi v a w->jF P md ops Q E r fuel (listed.setIfInBounds i true) (a.put oi.dst v) w->jF P md ops Q E r (fuel+1) listed a w:=by
 open apt in exact ajE
structure But (r:Nat) (w:World) where
 x:World
 h:aC [r] w x
theorem OC {r:Nat} {w:World} {g i:Nat} {v:Value} (h:w.cell? ⟨g,i,none⟩=some v) (hg:g≠r):∀p:But r w,p.x.cell? ⟨g,i,none⟩=some v:=λp=>(World.cell?_of_block (w:=w) (p.h.block g (World.block_lt_of_cell? w _ h) (by simpa using hg))).trans h
theorem CJ (i n:Nat) {oi:Oper} {fuel:Nat} {listed:Array Bool} {a:Act} {w:World} (hi:ops[i]?=some oi) (hs:Region.noSelect ops=true) (hf:Region.free md ops listed i=true) (hr:(Region.ready md ops listed).contains i=true)
 (hcl:mX md ops listed=true) (hE:(Jk md ops E n).contains i=true)
 (hQ:∀v c a w,Q (.panic c) (a.put oi.dst v) w->Q (.panic c) a w)
 (h:∀K:Act->Prop,(∀a',jF P md ops Q E r fuel (listed.setIfInBounds i true) a' w->K a')->if Region.wanted oi (yielded ops a.tmps) then∃v,(∀p:But r w,Oper.quietUpon P (Ge p.x) p.x v ((execOp a.eval oi).run P p.x))/\K (a.put oi.dst v) else K (a.put oi.dst undef)):
 jF P md ops Q E r (fuel+1) listed a w:=by
 have h':=h _ λ_ h=>h
 have hE':i∈Jk md ops E n:=Abl
 by_cases hw:Region.wanted oi (yielded ops a.tmps)=true
 .rw [if_pos hw] at h';obtain⟨v,hv,hk⟩:=h';exact uD n hi hE' (Region.noSelect_spec hs) (hQ v) fuel listed a w (iC hcl) (Region.free_spec hi hf) Aau (.inl ⟨hw,λx hx=>hv ⟨x,hx⟩⟩) hk
 .rw [if_neg hw] at h';exact uD n hi hE' (Region.noSelect_spec hs) (hQ undef) fuel listed a w (iC hcl) (Region.free_spec hi hf) Aau (.inr ⟨Abz,rfl⟩) h'
theorem Uw (i:Nat) {oi:Oper} {fuel:Nat} {listed:Array Bool} {a:Act} {w:World} (hi:ops[i]?=some oi) (hr:Region.ready md ops listed=[i]) (hw:Region.wanted oi (yielded ops a.tmps)=true) (hiE:i≠E)
 (h:∀x,Ge w x->oi.wp P a x (λa' y=>aC [r] x y/\jF P md ops Q E r fuel (listed.setIfInBounds i true) a' y) Q):jF P md ops Q E r (fuel+1) listed a w:=by
 exact ajV
theorem F6 (i n:Nat) {oi:Oper} {fuel:Nat} {listed:Array Bool} {a:Act} {w:World} (hi:ops[i]?=some oi) (hs:Region.noSelect ops=true) (hf:Region.free md ops listed i=true) (hr:(Region.ready md ops listed).contains i=true)
 (hcl:mX md ops listed=true) (hE:(Jk md ops E n).contains i=true)
 (hQ:∀v c a w,Q (.panic c) (a.put oi.dst v) w->Q (.panic c) a w) (hw:Region.wanted oi (yielded ops a.tmps)=true)
 (ty:TypeId) (x:Operand) (ho:oi.op= .load ty x) (g o:Nat) (hx:a.eval x= .pointer (some ⟨g,o,none⟩)) (cs:List Value) (d:TypeDesc) (hc:w.rangeAt g o cs) (hg:g < w.heap.size/\g≠r)
 (hu:P.underlying ty=some d) (hd:d.isRow=true) (hz:(P.info? ty).map (·.size)=some cs.length)
 (h:jF P md ops Q E r fuel (listed.setIfInBounds i true) (a.put oi.dst (.agg cs.toArray)) w):jF P md ops Q E r (fuel+1) listed a w:=by
 refine uD n hi Abl (Region.noSelect_spec hs) (hQ _) fuel listed a w (iC hcl) (Region.free_spec hi hf) Aau (.inl ⟨hw,λy hy=>?_⟩) h;have hc2:y.rangeAt g o cs:=λj v hv=>(World.cell?_of_block (w:=w) (hy.block g hg.1 (by simpa using hg.2))).trans (hc j v hv)
 unfold execOp;simp only[ho,hx,Instr.loadAt,Instr.sureAddr,Sem.run_bind,Sem.run_pure,Result.andThen_ok,run_loadVar_mid y g o ty cs d hc2 hu hd hz];exact⟨rfl,rfl⟩
theorem F7 (i:Nat) {oi:Oper} {fuel:Nat} {listed:Array Bool} {a:Act} {w:World} (hi:ops[i]?=some oi) (hr:Region.ready md ops listed=[i]) (hw:Region.wanted oi (yielded ops a.tmps)=true) (hiE:i≠E)
 (ty:TypeId) (x y:Operand) (ho:oi.op= .store ty x y) (cells:Array Value) (hx:a.eval x= .pointer (some ⟨r,0,none⟩)) (hy:a.eval y= .agg cells) {zs:Array Value} {t:TypeId} (hb:w.heap[r]?=some (.cells zs t (0,0))) (hs:cells.size=zs.size)
 (hn:(P.info? ty).map (·.size)=some cells.size) (h1:cells.all (·.oneCell')=true)
 (h:∀X,aC [r] w X->X.heap[r]?=some (.cells cells t (0,0))->jF P md ops Q E r fuel (listed.setIfInBounds i true) (a.put oi.dst undef) X):jF P md ops Q E r (fuel+1) listed a w:=
 Uw i hi hr hw hiE λX hX=>by
  have hbX:=au hb hX
  refine wp_store_mid ty x y ho r 0 cells hx hy (λj hj=>⟨by rw [cell_of_row X _ _ _ t (0,0) hbX];simp;omega,aj hbX _⟩) hn h1 ⟨iP _ _ _ _,h _ ((aC.of_below hX).trans (iP _ _ _ _)) ?_⟩
  rw [Fw]
  exact X9 cells.toList zs.toList (by simpa using hs.symm) (by simpa using hbX)
theorem MZ {fuel:Nat} {listed:Array Bool} {a:Act} {w:World} (hr:Region.ready md ops listed=[E]) (h:∀x,Ge w x->wpAny P md ops Q (fuel+1) listed a x):jF P md ops Q E r (fuel+1) listed a w:=λx hx=>⟨(h x hx).1,λi hi=>⟨λ_=>(h x hx).2 i hi,λhne=>absurd Ada hne⟩⟩
theorem vT (E r:Nat) {id:Nat} {a:Act} {w:World} (hm:P.follows .mixedOrders=true) (h:jF P .any ops Q E r ops.size (Array.replicate ops.size false) a w):(Code.region id ops true).wp P Q a w:=
 wp_region_any hm (xG (E:=E) (r:=r) _ _ _ _ (CG (w:=w) (x:={w with drawn:=w.drawn+1}) ⟨rfl,rfl,rfl,Nat.le_refl _,λ_ _=>rfl⟩ h))
end
end Go.Proofs.YtohmklmkjmlpjaaGreatDoor
