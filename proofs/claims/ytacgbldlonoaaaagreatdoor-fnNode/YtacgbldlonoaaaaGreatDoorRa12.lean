/- Parts. -/
import Derived.Test.YtacgbldlonoaaaaGreatDoorRa11
namespace Go.Proofs.YtacgbldlonoaaaaGreatDoor
open Go.RowKit
open Mth
namespace Mth
def dw (id par:Int) (kids fs:List Int):Nd:=⟨id,par,kids,1,[],[],fs.map (fun x=>⟨x,1,[]⟩),0,[]⟩
def mV:Nd:=⟨0,0,[],0,[],[],[],0,[]⟩
def Io (id par:Int) (kids:List Int):Nd×Bool:=if bQ (dw id par kids []) then(dw id par kids (Dt (iM (dw id par kids []))),true) else(mV,false)
theorem Ov (id par:Int) (kids fs:List Int):bQ (dw id par kids fs)=bQ (dw id par kids []):=rfl
theorem SG (id par:Int) (kids fs:List Int):iM (dw id par kids fs)=iM (dw id par kids []):=rfl
theorem abK (id par:Int) (kids fs:List Int) (h:bQ (dw id par kids [])=true) (hf:fs=Dt (iM (dw id par kids []))):dG (dw id par kids fs)=true:=by
 have hp:bQ (dw id par kids fs)=true:=h
 have hm:(dw id par kids fs).seen.map (·.f)=Dt (iM (dw id par kids fs)):=by
  rw [SG,←hf];simp[dw,Function.comp_def]
 have ha:(dw id par kids fs).seen.all qz=true:=by
  rw [List.all_eq_true];intro s hs;obtain⟨x,_,rfl⟩:=List.mem_map.1 hs;rfl
 unfold dG;rw [hp,pW hp,decide_eq_true hm,ha];rfl
theorem abL (id par:Int) (kids fs:List Int) (h:bQ (dw id par kids [])=false):dG (dw id par kids fs)=false:=by
 unfold dG;rw [Ov,h];rfl
def tZ (n:Nd) (k:Nat):List Int:=(upTo k).filter (dB n)
theorem OU (k:Nat):upTo (k+1)=upTo k++[(k:Int)]:=by
 unfold upTo;rw [List.range_succ,List.map_append];rfl
theorem aae (n:Nd) (k:Nat):tZ n (k+1)=if dB n k then tZ n k++[(k:Int)] else tZ n k:=by
 unfold tZ;rw [OU,List.filter_append,List.filter_cons];split<;>simp
theorem an8 {n:Nd} (h:bQ n=true):tZ n 30=Dt (iM n):=by
 have hk:=kJ h
 have hp:n.par≤29:=by
  exact Zw
 refine(Q7 _ _ (Fg (tY h)) ((AJ 30).sublist List.filter_sublist) ?_ ?_).symm
 ·intro x hx;rw [wm] at hx;(try unfold tZ)
  rw [List.mem_filter];refine⟨?_,(qR h x).2 hx⟩;rw [Jh];unfold iM at hx;rcases List.mem_append.1 hx with hx|hx
  ·have:=hk.1 x hx;unfold iE nY at this;simp only[Bool.and_eq_true,decide_eq_true_eq] at this;omega
  ·split at hx
   ·simp at hx
   ·have:x=n.par:=by simpa using hx
    omega
 ·refine JR _ _ ((AJ 30).sublist List.filter_sublist) (Fg (tY h)) ?_;intro x hx;(try unfold tZ at hx)
  rw [List.mem_filter] at hx;rw [wm];exact(qR h x).1 hx.2
theorem VQ {id par:Int} {kids fs:List Int} (h:bQ (dw id par kids [])=true) (hf:fs=Dt (iM (dw id par kids []))):Io id par kids=(dw id par kids fs,true):=by
 unfold Io;rw [if_pos h,hf]
theorem abJ {id par:Int} {kids:List Int} (h:bQ (dw id par kids [])=false):Io id par kids=(mV,false):=by
 unfold Io;rw [if_neg (by rw [h];simp)]
end Mth
def mJ (x:Int):R3:=⟨x,1,.slice none 0 0⟩
abbrev VR (id par:Int) (kv v:Value):Array Value:=#[.int .i64 id,.int .i64 par,kv,.int .i64 1,.slice none 0 0,.slice none 0 0,v,.int .i64 0,.slice none 0 0]
structure NN (w2 wr:World) (nb:Nat) (id par:Int) (kv v:Value) (fs:List Int):Prop where
 keep:aC [nb] w2 wr
 blk:wr.heap[nb]?=some (.cells (VR id par kv v) 30 (0,0))
 own:wr.ownsRow w2.heap.size 90 3 v fs.length (GR.flat cu (fs.map mJ))
 lt:nb < w2.heap.size
theorem NN.step {w2 wr w':World} {nb:Nat} {id par:Int} {kv v:Value} {fs:List Int} (h:NN w2 wr nb id par kv v fs) (hb:Below wr.heap.size wr w'):NN w2 w' nb id par kv v fs:=
 ⟨h.keep.trans (aC.of_below hb),aj h.blk hb,GR.own_below h.own hb,h.lt⟩
theorem NN.app {w2 wr w6:World} {nb:Nat} {id par:Int} {kv v v':Value} {fs:List Int} {o:Obj} (h:NN w2 wr nb id par kv v fs) (x:Int)
 (hown:w6.ownsRow w2.heap.size 90 3 v' (fs.length+1) (GR.flat cu (fs.map mJ)++cu (mJ x))) (hg:(wr.alloc o).grownBy w6 v.ownBlock):
 NN w2 (w6.setCell ⟨nb,6,none⟩ v') nb id par kv v' (fs++[x]):=by
 have hvb:∀k,v.ownBlock=some k→w2.heap.size≤k:=fun k hk=>(h.own.lt k hk).1
 have hlt:=h.lt;have hsz:=h.keep.size
 have hblk6:w6.heap[nb]?=some (.cells (VR id par kv v) 30 (0,0)):=by
  rw [hg.block nb (by simp;omega) (fun e=>by have:=hvb nb e.symm;omega),Below.heap_alloc _ _ _ (by omega)];exact h.blk
 have hne:∀k,v'.ownBlock=some k→k≠nb:=fun k hk=>by have:=(hown.lt k hk).1;omega
 refine⟨?_,?_,?_,hlt⟩
 ·refine⟨hg.os.trans h.keep.os,hg.tape.trans h.keep.tape,hg.output.trans h.keep.output,?_,fun k hk hkn=>?_⟩
  ·have:=hg.size;simp[World.setCell] at this ⊢;omega
  ·have hkn':k≠nb:=by simpa using hkn
   exact ano
 ·exact bg hblk6 6 v'
 ·have e1:(fs++[x]).length=fs.length+1:=by simp
  have e2:GR.flat cu ((fs++[x]).map mJ)=GR.flat cu (fs.map mJ)++cu (mJ x):=by rw [List.map_append,GR.flat_append];simp[GR.flat]
  rw [e1,e2];refine hown.kept (row:=some nb) ⟨rfl,rfl,rfl,by simp[World.setCell],fun k _ hk=>Below.heap_setCell _ _ _ _ (fun e=>hk (by rw [e]))⟩ ?_;exact Zm
theorem abO (x:Int):∀u∈cu (mJ x),u.oneCell'=true:=by
 intro u hu;simp only[cu,mJ,List.mem_cons,List.not_mem_nil,or_false] at hu;rcases hu with rfl|rfl|rfl<;>rfl
theorem eO.new {w:World} {B:Nat} {v:Value} {fs:List Int} (h:w.ownsRow B 90 3 v fs.length (GR.flat cu (fs.map mJ))):∃a c g,v= .slice a fs.length c∧eO w a g (fun _=>0) (fs.map (fun x=>⟨x,1,[]⟩))∧(∀x∈fp g fs,B≤x∧x < w.heap.size):=by
 have h':w.ownsRow B 90 3 v (fs.map mJ).length (GR.flat cu (fs.map mJ)):=by rw [List.length_map];exact h
 obtain⟨a,c,g,e,hW,hr,_⟩:=GR.W.of_own bC h';refine⟨a,c,g,by rw [e,List.length_map],⟨fs.map mJ,hW,by simp,fun i hi=>?_⟩,fun x hx=>hr x ?_⟩
 ·refine⟨none,0,?_,?_⟩
  ·have hi':i < fs.length:=by simpa using hi
   simp[hi',mJ]
  ·simp only[List.getElem_map];exact GR.W.nil
 ·have:=gD hx;rw [this.1];exact dz (by simpa using this.2)
theorem Mc (I:Nat→Nat) (fs:List Int):nM I (fs.map (fun x=>(⟨x,1,[]⟩:Sn)))=[]:=by
 apply List.eq_nil_iff_forall_not_mem.2
 intro x hx;obtain⟨i,hi,_,hp⟩:=uf hx;simp at hp
theorem kW.new {w:World} {B B2:Nat} {id par:Int} {kv v:Value} {kids fs:List Int} (hk:w.ownsRow B 3 1 kv kids.length (GR.flat aR kids)) (hkl:∀x,kv.ownBlock=some x→x < B2) (hs:w.ownsRow B2 90 3 v fs.length (GR.flat cu (fs.map mJ))) (hB:B≤B2):
 ∃A G,Value.agg (VR id par kv v)=gu (dw id par kids fs) A∧kW w A G (dw id par kids fs)∧G.Sep (dw id par kids fs) B w.heap.size:=by
 obtain⟨a1,c1,g1,rfl,hW1,hr1,ho1⟩:=GR.W.of_own aN hk;obtain⟨a2,c2,g2,rfl,hW2,hr2⟩:=eO.new hs
 have hall:∀x,x∈aU.all ⟨g1,0,0,g2,0,fun _=>0⟩ (dw id par kids fs)→x∈fp g1 kids∨x∈fp g2 fs:=fun x hx=>by
  rcases aU.mem_all.1 hx with h|h|h|h|h|h
  ·exact .inl h
  ·simp[dw,fp] at h
  ·simp[dw,fp] at h
  ·right
   rw [JY (l':=fs) (by simp[dw])] at h;exact h
  ·simp only[dw] at h;rw [Mc] at h;simp at h
  ·simp[dw,fp] at h
 refine⟨⟨a1,none,none,a2,none,c1,0,0,c2,0⟩,⟨g1,0,0,g2,0,fun _=>0⟩,by simp[VR,gu,fZ,dw],⟨hW1,GR.W.nil,GR.W.nil,hW2,GR.W.nil⟩,⟨?_,fun x hx=>?_⟩⟩
 ·have e:aU.all ⟨g1,0,0,g2,0,fun _=>0⟩ (dw id par kids fs)=fp g1 kids++fp g2 fs:=by
   unfold aU.all;simp only[dw];rw [Mc,JY (l:=fs.map _) (l':=fs) (by simp)];simp[fp]
  rw [e,List.nodup_append];refine⟨zB _ _,zB _ _,fun a ha b hb=>?_⟩;have h1:=hkl a (ho1 a ha);have h2:=(hr2 b hb).1;omega
 ·rcases hall x hx with h|h
  ·exact hr1 x h
  ·have:=hr2 x h;omega
theorem kW.zero {w:World}:kW w ⟨none,none,none,none,none,0,0,0,0,0⟩ ⟨0,0,0,0,0,fun _=>0⟩ mV∧aU.Sep ⟨0,0,0,0,0,fun _=>0⟩ mV w.heap.size w.heap.size:=
 ⟨⟨GR.W.nil,GR.W.nil,GR.W.nil,⟨[],GR.W.nil,rfl,fun i hi=>by simp[mV] at hi⟩,GR.W.nil⟩,⟨by simp[aU.all,mV,fp,nM],fun x hx=>by simp[aU.all,mV,fp,nM] at hx⟩⟩
set_option maxHeartbeats 4000000
set_option maxRecDepth 100000
namespace Mth
theorem OI {l:List Sn} {F:List Int} {k:Nat} (hk:k < l.length) (hF:F.length=l.length) (h1:(l.take k).map (·.f)=F.take k) (h2:(l.take k).all qz=true) (h3:(l[k]).f=F[k]'(by omega)) (h4:qz l[k]=true):
 (l.take (k+1)).map (·.f)=F.take (k+1)∧(l.take (k+1)).all qz=true:=by
 rw [List.take_succ_eq_append_getElem hk,List.take_succ_eq_append_getElem (by omega),List.map_append,h1,List.all_append,h2];simp[h3,h4]
theorem OG {l:List Sn} {F:List Int} {k:Nat} (hk:k < l.length) (hF:F.length=l.length) (h3:¬(l[k]).f=F[k]'(by omega)):¬l.map (·.f)=F:=by
 intro h;apply h3
 subst h;simp
theorem OH {l:List Sn} {k:Nat} (hk:k < l.length) (h4:qz l[k]=false):l.all qz=false:=by
 rw [List.all_eq_false];exact⟨l[k],List.getElem_mem hk,by rw [h4];simp⟩
end Mth
theorem aah (s:Sn) (b:Option Addr) (c:Nat) (r:Bool) (wc:World) (hl:s.ids.length≤1048600) (ha:dK wc b s.ids) (hr:qz s=r):∀d os,Calls Tryz.prog 132 #[.agg #[.int .i64 s.f,.int .i64 s.l,.slice b s.ids.length c]] (Sort.grow (redrawn wc d) os) fun e w''=>e= .returned (.bool r)∧∃p:Regrown,w''=Sort.grow (redrawn wc p.d) p.os:=fun d os=>by
 rw [←hr];exact Calls.regrown_of (Hq s b c _ hl (GR.At.below ha (below_regrown wc d os)))
theorem Ki (n:Nd) (A:bE) (w:World) (hz:eH n 1048600) (hp:bQ n=true) (ha:dQ w A n):
 Calls Tryz.prog 56 #[gu n A] w fun e w'=>e= .returned (.bool (lC n))∧Below w.heap.size w w':=by
 have HA:=hide ha;have HD:=hide (pW hp);have HSK:=hide hz.sk;have MR:=hide (qJ n A (w.alloc (.cells (fZ n A) 30)) hz.k (GR.At.below ha.k (au w _)));have jy:=hide (heap_alloc_new w (.cells (fZ n A) 30));have hls:=hz.s;have hln:(iM n).length≤1048602:=by have:=hz.k;unfold iM;split<;>simp<;>omega
 have uG:=hide (kQ (iM n));generalize Dt (iM n)=F at *;generalize (iM n).length=NL at *;generalize lC n=TT at *;clear ha hz hp;open agk in exact wS
theorem tL (n:Nd) (A:bE) (w:World) (hz:eH n 1048600) (ha:dQ w A n):
 Calls Tryz.prog 18 #[gu n A] w fun e w'=>e= .returned (.bool (dG n))∧Below w.heap.size w w':=by
 have FX:Hid (∀w1,Below w.heap.size w w1→Calls Tryz.prog 52 #[gu n A] w1 fun e w'=>e= .returned (.bool (bQ n))∧Below w1.heap.size w1 w'):=fun w1 hb=>by
  have h:=Kg n A w1 hz.k (ha.below hb).k
  rw [Kw] at h
  exact h
 have HPU:=hide (fun w1 (hb:Below w.heap.size w w1)=>oW A.p A.cp n.pu w1 hz.p (ha.below hb).p);have HOT:=hide (fun w1 (hb:Below w.heap.size w w1) (hp:bQ n=true)=>Og n A w1 hz hp (ha.below hb));have HSE:=hide (fun w1 (hb:Below w.heap.size w w1) (hp:bQ n=true)=>Ki n A w1 hz hp (ha.below hb));have HRE:=hide (fun w1 (hb:Below w.heap.size w w1)=>Kh n A w1 hz (ha.below hb));have HD:Hid (dG n=(bQ n&&ig n.pu&&lC n&&eD n.next&&nZ n&&fQ n)):=rfl;have jy:=hide (heap_alloc_new w (.cells (fZ n A) 30));generalize bQ n=PL at *;generalize ig n.pu=PS at *;generalize lC n=TD at *;generalize nZ n=OT at *;generalize fQ n=RQ at *;generalize dG n=TT at *;clear ha hz;open agj in exact wS
set_option maxHeartbeats 4000000
def Pt (w:World) (R:Nd×Bool) (e:Ending) (w':World):Prop:=∃A',e= .returned (.tuple #[gu R.1 A',.bool R.2])∧∃G,kW w' A' G R.1∧G.Sep R.1 w.heap.size w'.heap.size∧Below w.heap.size w w'
abbrev iO:Array Value:=#[.int .i64 0,.int .i64 0,.slice none 0 0,.int .i64 0,.slice none 0 0,.slice none 0 0,.slice none 0 0,.int .i64 0,.slice none 0 0]
theorem zY {w:World} {B B2:Nat} {id par:Int} {kv v:Value} {kids fs:List Int} (hk:w.ownsRow B 3 1 kv kids.length (GR.flat aR kids)) (hs:w.ownsRow B2 90 3 v fs.length (GR.flat cu (fs.map mJ))):∃A,Value.agg (VR id par kv v)=gu (dw id par kids fs) A∧dQ w A (dw id par kids fs):=by
 obtain⟨a1,c1,g1,rfl,hW1,_⟩:=GR.W.of_own aN hk;obtain⟨a2,c2,g2,rfl,hW2,_⟩:=eO.new hs;exact⟨⟨a1,none,none,a2,none,c1,0,0,c2,0⟩,by simp[VR,gu,fZ,dw],⟨hW1.at,GR.at_nil _ _,GR.at_nil _ _,hW2.at,GR.at_nil _ _⟩⟩
theorem vI {x g:Nat} (h:x∈[g]):x=g:=by simpa using h
theorem abR {id par:Int} {kids fs:List Int} (h1:kids.length≤1048600) (h2:fs.length≤1048600):eH (dw id par kids fs) 1048600:=
 ⟨h1,by simp[dw],by simp[dw],by simpa [dw] using h2,by simp[dw],fun x hx=>by simp[dw] at hx,fun x hx=>by simp[dw] at hx,fun x hx=>by simp only[dw,List.mem_map] at hx;obtain⟨y,_,rfl⟩:=hx;simp,fun x hx=>by simp[dw] at hx⟩
theorem Z5 (id par:Int) (a:Option Addr) (cap:Nat) (kids:List Int) (w:World) (hl:kids.length≤1048576) (ha:dK w a kids):
 Calls Tryz.prog 12 #[.int .i64 id,.int .i64 par,.slice a kids.length cap] w (Pt w (Io id par kids)):=by
 obtain⟨i0,hi,hz0,hz1,hz2⟩:=info_parts zM;have iN:=hide (rE a cap kids (w.alloc (.cells iO 30)) (by omega) (GR.At.below ha (au w _)));have HRB:=hide (heap_alloc_new w (.cells iO 30));clear ha;obtain⟨RN,hRN⟩:∃R,Io id par kids=R:=⟨_,rfl⟩;rw [hRN];have HRN:=hide hRN;clear hRN;unfold Pt;go_enter Tryz.func12,Tryz.ntmps12
 go_wp2_with fail;refine iN.mono ?_;rintro e w1 ⟨kv,rfl,hown,hb1⟩;obtain⟨ka,kc,rfl,_⟩:=GR.own_at (enc:=aR) (sz:=1) aN hown;have HB1:=hide ((au w _).trans (hb1.mono (by simp)));have UG:=hide (GR.own_lower (b':=w.heap.size+1) hown (by simp));have HR1:=hide (aj HRB hb1);clear hown hb1 iN HRB;go_upto_region 2 with fail;refine wp_at (fun W1 hW1=>?_);have hbw:Below w1.heap.size w1 W1:=by rw [hW1];exact au w1 _
 have sW:Hid (W1.heap[w1.heap.size]?=some (.cells (VR id par (.slice ka kids.length kc) (.slice none 0 0)) 30 (0,0))):=by rw [hW1];exact heap_alloc_new _ _
 have UH:=hide (GR.own_below UG hbw);have HR2:=hide (aj HR1 hbw);have HB2:=hide (HB1.trans (hbw.mono HB1.size));have HKL:Hid (∀x,(Value.slice ka kids.length kc).ownBlock=some x→x < w1.heap.size):=fun x hx=>(UG.lt x hx).2
 have ar1:=aA HR1;clear hW1 hbw HR1 UG HB1;obtain⟨A1,hA1,anF⟩:=zY (id:=id) (par:=par) (fs:=[]) (v:= .slice none 0 0) UH (World.ownsRow_nil W1 W1.heap.size 90 3);have MR:=hide (qJ (dw id par kids []) A1 W1 (by show kids.length≤1048600;omega) anF.k);rw [←hA1] at MR;have hln:(iM (dw id par kids [])).length≤1048600:=by unfold iM dw;dsimp only;split<;>simp<;>omega
 have HSL:=hide (kQ (iM (dw id par kids [])));have HFS:Hid (∀fs,fs=Dt (iM (dw id par kids []))→(bQ (dw id par kids [])=true→Io id par kids=(dw id par kids fs,true)∧dG (dw id par kids fs)=true)∧(bQ (dw id par kids [])=false→Io id par kids=(mV,false)∧dG (dw id par kids fs)=false)):=fun fs hf=>⟨fun h=>⟨VQ h hf,abK id par kids fs h hf⟩,fun h=>⟨abJ h,abL id par kids fs h⟩⟩
 generalize Dt (iM (dw id par kids []))=F at *;generalize (iM (dw id par kids [])).length=NL at *;generalize bQ (dw id par kids [])=PB at *;rw [ah HRN] at HFS;clear hA1 anF;obtain⟨c0,c1,c2,c3,c4,c5,c6,c7,c8⟩:=nine sW;go_wp2_with fail;refine MR.mono ?_;rintro e w2 ⟨fv,rfl,hfo,hb2⟩;have Ud:=ah HSL;subst Ud;obtain⟨fa,fc,rfl,hF⟩:=GR.own_at (enc:=aR) (sz:=1) aN hfo;have HF:=hide hF;have HNN:=hide (show NN w2 w2 w1.heap.size id par (.slice ka kids.length kc) (.slice none 0 0) [] from⟨aC.refl _ _,aj sW hb2,World.ownsRow_nil _ _ _ _,Nat.lt_of_lt_of_le (aA sW) hb2.size⟩);have AQ:=hide (GR.own_below UH hb2);have HR3:=hide (aj HR2 hb2);have HB3:=hide (HB2.trans (hb2.mono HB2.size));have asa:w1.heap.size < w2.heap.size:=Nat.lt_of_lt_of_le (aA sW) hb2.size
 have HFN:Hid (∀x,fa=some x→x.block≠w1.heap.size):=fun x hx e=>by
  rcases hfo.2 with⟨h,_⟩|⟨g,cap,cur,hv,hg,_⟩
  ·injection h with h1
   rw [h1] at hx;cases hx
  ·injection hv with h1
   rw [h1] at hx;injection hx with hx
   have:=aA sW;rw [←hx] at e;dsimp only at e;omega
 clear hfo hb2 hF MR sW c0 c1 c2 c3 c4 c5 c6 c7 c8 HR2 UH HB2 HSL;go_wp2_with fail;go_loopw [19] (fun i wr=>∃(k:Nat) (v:Value),k≤F.length∧i= .int .i64 k∧NN w2 wr w1.heap.size id par (.slice ka kids.length kc) v (F.take k)) (fun i _=>F.length - (intOf i).toNat)
 case atStart=>exact⟨0,.slice none 0 0,Nat.zero_le _,rfl,HNN⟩
 case round=>
  obtain⟨k,v,hk,rfl,hN⟩:=hrel;have HN:=hide hN;obtain⟨c0,c1,c2,c3,c4,c5,c6,c7,c8⟩:=nine hN.blk;have hkw:=hN.keep.size;clear hN;by_cases hlt:k < F.length
  ·have hFk:∃g off,fa=some ⟨g,off,none⟩∧g < wr.heap.size∧wr.cell? ⟨g,off+k,none⟩=some (.int .i64 F[k]):=by
    obtain⟨g,off,e,hg,hc⟩:=dK.one HF k hlt;refine⟨g,off,e,by omega,?_⟩;have hne:=ah HFN _ e;rw [←hc];exact World.cell?_of_block (w:=w2) (HN.keep.block g hg (by simpa using hne))
   obtain⟨g,off,e0,hg,q0⟩:=hFk;have HT:=hide (List.take_succ_eq_append_getElem hlt);have anT:(F.take k).length=k:=by simp;omega
   have Us:=hide anT;generalize F[k]=x at *;subst e0;have hown:=HN.own;have hf6:=ay HN.blk 6;clear anT;go_wp2_with (at_builtin;refine wpList_append_own _ rfl _ _ 27 rfl w2.heap.size 90 i0 (.agg #[.int .i64 0,.int .i64 0,.slice none 0 0]) 3 40 Tryz.underlying27 hi hz0 hz1 hz2 rfl (by decide) _ _ _ rfl (hown.alloc _) ⟨wr.heap.size,0,none⟩ 1 1 (cu (mJ x)) rfl rfl ?c1 ?c2 ?c3 ?c4 ?c5 ?_)
   case c1=>exact World.news_of_block (heap_alloc_new wr _)
   case c2=>exact abO x
   case c3=>rw [ah Us];unfold maxLen;omega
   case c4=>rw [ah Us];omega
   case c5=>simp;omega
   intro v' w5 hown' hgrow _;have hown2:w5.ownsRow w2.heap.size 90 3 v' ((F.take k).length+1) (GR.flat cu ((F.take k).map mJ)++cu (mJ x)):=by rw [ah Us,List.map_take];exact hown'
   obtain⟨va,vc,hv,_⟩:=GR.own_at (enc:=cu) (sz:=3) (l:=(F.take k++[x]).map mJ) bC (by
    have e2:GR.flat cu ((F.take k++[x]).map mJ)=GR.flat cu ((F.take k).map mJ)++cu (mJ x):=by rw [List.map_append,GR.flat_append];simp[GR.flat]
    rw [e2,List.length_map,List.length_append]
    exact hown2)
   rw [List.length_map,List.length_append,ah Us] at hv;have hv':v'= .slice va (k+1) vc:=hv;clear hv;subst hv';have HA5:=hide (HN.app x hown2 hgrow)
   have hb5:w5.heap[w1.heap.size]?=some (.cells (VR id par (.slice ka kids.length kc) v) 30 (0,0)):=by
    rw [hgrow.block w1.heap.size (by simp;omega) (fun e=>by have:=(hown.lt _ e.symm).1;omega),Below.heap_alloc _ _ _ (by omega)];exact HN.blk
   obtain⟨e0,e1,e2,e3,e4,e5,e6,e7,e8⟩:=nine hb5;have g6:=ay hb5 6;clear hown' hown2 hgrow hb5 hown c0 c1 c2 c3 c4 c5 c6 c7 c8 hf6;go_wp2_with fail;go_roundw
   case rel=>exact⟨k+1,.slice va (k+1) vc,by omega,by go_num,by rw [ah HT];exact HA5⟩
   case measure=>simp[intOf];omega
  ·have hke:k=F.length:=by omega
   subst hke;have hnlt:decide ((F.length:Int) < (F.length:Int))=false:=by simp
   have Po:=ah HN;rw [List.take_length] at Po;obtain⟨va,vc,hv,_⟩:=GR.own_at (enc:=cu) (sz:=3) (l:=F.map mJ) bC (by rw [List.length_map];exact Po.own);rw [List.length_map] at hv;subst hv;have MQ:=hide Po
   have O9:Hid (wr.ownsRow (w.heap.size+1) 3 1 (.slice ka kids.length kc) kids.length (GR.flat aR kids)):=AQ.kept (row:=some w1.heap.size) ⟨Po.keep.os,Po.keep.tape,Po.keep.output,Po.keep.size,fun j hj hjn=>Po.keep.block j hj (fun e=>hjn (by rw [vI e]))⟩ (by
    cases hv:(Value.slice ka kids.length kc).ownBlock with
    |none=>exact .inl rfl
    |some j=>exact .inr (fun e=>by have:=ah HKL j hv;injection e with e;omega))
   have HR4:Hid (wr.heap[w.heap.size]?=some (.cells iO 30 (0,0))):=Po.keep.obj HR3 (by simp;omega);have nK:Hid (Below w.heap.size w wr):=HB3.trans (Po.keep.below (fun x hx=>by have:=vI hx;omega) HB3.size);obtain⟨A4,ZQ,anG⟩:=zY (id:=id) (par:=par) O9 Po.own;have ku:=hide (tL (dw id par kids F) A4 wr (abR (by omega) (by omega)) anG);rw [←ZQ] at ku;obtain⟨hY,hX⟩:=ah HFS F rfl;have HY:=hide hY;have HX:=hide hX;clear Po ZQ anG hY hX HFS HN;generalize dG (dw id par kids F)=OK at *;go_wp2_with fail;refine ku.mono ?_;rintro e w5 ⟨rfl,hb5⟩;have HN5:=hide (MQ.step hb5);have CB:=hide (GR.own_below O9 hb5);have Lp:=hide (aj HR4 hb5);have jJ:=hide (nK.trans (hb5.mono nK.size));clear hb5 c0 c1 c2 c3 c4 c5 c6 c7 c8 ku;obtain⟨c0,c1,c2,c3,c4,c5,c6,c7,c8⟩:=nine HN5.blk;obtain⟨r0,r1,r2,r3,r4,r5,r6,r7,r8⟩:=nine Lp;have f0:=ay Lp 0;have f1:=ay Lp 1;have f2:=ay Lp 2;have f3:=ay Lp 3;have f4:=ay Lp 4;have f5:=ay Lp 5;have f6:=ay Lp 6;have f7:=ay Lp 7;have f8:=ay Lp 8;cases hPB:PB
   ·obtain⟨e1,e2⟩:=ah HX hPB;subst e1 e2;clear hPB HX HY;go_wp2_with fail;refine aO (fun W' hW'=>?_);have hR:=Ip (b0:= .int .i64 0) (b1:= .int .i64 0) (b2:= .slice none 0 0) (b3:= .int .i64 0) (b4:= .slice none 0 0) (b5:= .slice none 0 0) (b6:= .slice none 0 0) (b7:= .int .i64 0) (b8:= .slice none 0 0) Lp;have hK:=zX (w:=w5) (g:=w.heap.size) (b0:= .int .i64 0) (b1:= .int .i64 0) (b2:= .slice none 0 0) (b3:= .int .i64 0) (b4:= .slice none 0 0) (b5:= .slice none 0 0) (b6:= .slice none 0 0) (b7:= .int .i64 0) (b8:= .slice none 0 0);rw [←hW'] at hR hK;obtain⟨x0,x1,x2,x3,x4,x5,x6,x7,x8⟩:=nine hR;refine bodyPost_ret (v:= .tuple #[gu mV ⟨none,none,none,none,none,0,0,0,0,0⟩,.bool false]) (by simp[results,Tryz.results12,go_sem,x0,x1,x2,x3,x4,x5,x6,x7,x8,mV]) rfl ⟨_,rfl,⟨0,0,0,0,0,fun _=>0⟩,kW.zero.1,⟨(kW.zero (w:=W')).2.nodup,fun x hx=>absurd hx (by simp[aU.all,mV,fp,nM])⟩,jJ.trans (hK.below (fun x hx=>by have:=vI hx;omega) jJ.size)⟩
   ·obtain⟨e1,e2⟩:=ah HY hPB;subst e1 e2;clear hPB HX HY;go_wp2_with fail;refine aO (fun W' hW'=>?_);have hR:=Ip (b0:= .int .i64 id) (b1:= .int .i64 par) (b2:=(.slice ka kids.length kc)) (b3:= .int .i64 1) (b4:= .slice none 0 0) (b5:= .slice none 0 0) (b6:= .slice va F.length vc) (b7:= .int .i64 0) (b8:= .slice none 0 0) Lp;have hK:=zX (w:=w5) (g:=w.heap.size) (b0:= .int .i64 id) (b1:= .int .i64 par) (b2:=(.slice ka kids.length kc)) (b3:= .int .i64 1) (b4:= .slice none 0 0) (b5:= .slice none 0 0) (b6:= .slice va F.length vc) (b7:= .int .i64 0) (b8:= .slice none 0 0);rw [←hW'] at hR hK;obtain⟨x0,x1,x2,x3,x4,x5,x6,x7,x8⟩:=nine hR;have hBW:=jJ.trans (hK.below (B:=w.heap.size) (fun x hx=>by have:=vI hx;omega) jJ.size);obtain⟨A9,G9,e9,hNW,hSP⟩:=kW.new (id:=id) (par:=par) CB (fun x hx=>by have:=ah HKL x hx;omega) HN5.own (B2:=w2.heap.size) (by omega);have e9':=e9;unfold VR at e9'
    have hN9:kW W' A9 G9 (dw id par kids F):=hNW.keeps hK (fun x hx hx2=>by
     have h1:=hSP.rng x hx
     have h2:=vI hx2
     omega)
    refine bodyPost_ret (v:= .tuple #[gu (dw id par kids F) A9,.bool true]) (by rw [←e9];simp[results,Tryz.results12,go_sem,x0,x1,x2,x3,x4,x5,x6,x7,x8]) rfl ⟨_,rfl,G9,hN9,⟨hSP.nodup,fun x hx=>?_⟩,hBW⟩;have h1:=hSP.rng x hx;have h2:=hK.size;omega
end Go.Proofs.YtacgbldlonoaaaaGreatDoor
