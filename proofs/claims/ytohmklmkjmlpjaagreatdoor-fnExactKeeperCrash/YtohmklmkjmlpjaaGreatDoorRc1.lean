/- Parts. -/
import Derived.Test.YtohmklmkjmlpjaaGreatDoorRcZ5
namespace Go.Proofs.YtohmklmkjmlpjaaGreatDoor.Mth
open Go.Proofs.Tryz
open Mth
variable (l:List UInt8)
def putF:Nat->Nat->List UInt8
 |0,n=>[UInt8.ofNat n]
 |f+1,n=>if n<=127 then[UInt8.ofNat n] else UInt8.ofNat (128+n % 128)::putF f (n / 128)
def put (n:Nat):List UInt8:=putF 5 n
theorem jL (f n:Nat) (h:n<=127):putF f n=[UInt8.ofNat n]:=by
 cases f with
 |zero=>rfl
 |succ f=>simp[putF,h]
theorem nP (f n:Nat) (h:¬n<=127):putF (f+1) n=UInt8.ofNat (128+n % 128)::putF f (n / 128):=by
 simp[putF,h]
theorem QT (f n:Nat):(putF f n).length<=f+1:=by
 induction f generalizing n with
 |zero=>simp[putF]
 |succ f ih=>
  by_cases h:n<=127
  .rw [jL _ _ h];simp
  .rw [nP _ _ h];have:=ih (n / 128);simp;omega
theorem toNat_byte (n:Nat) (h:n < 256):(UInt8.ofNat n).toNat=n:=by
 simp[UInt8.toNat_ofNat'];omega
theorem put_round (n f cur:Nat) (pre:List UInt8) (hcur:cur < 128 ^ (f+1)) (hbig:¬cur<=127) (hpf:pre.length+f=5) (h:pre++putF f cur=put n):
 ∃f',f=f'+1/\cur / 128 < 128 ^ (f'+1)/\(pre++[UInt8.ofNat (128+cur % 128)]).length+f'=5/\(pre++[UInt8.ofNat (128+cur % 128)])++putF f' (cur / 128)=put n:=by
 cases f with
 |zero=>simp at hcur;omega
 |succ f'=>
  refine⟨f',rfl,?_,Aag,?_⟩
  .rw [Nat.div_lt_iff_lt_mul Aaa];rw [Nat.pow_succ] at hcur;exact hcur
  .rw [nP _ _ hbig] at h;rw [<-h];simp
theorem put_end (n f cur:Nat) (pre:List UInt8) (hs:cur<=127) (h:pre++putF f cur=put n):pre++[UInt8.ofNat cur]=put n:=by
 rw [jL _ _ hs] at h;exact h
theorem put_length (n:Nat):(put n).length<=6:=QT 5 n
def sumStep (p:Nat×Nat) (c:UInt8):Nat×Nat:=((p.1+c.toNat) % 65521,(p.2+(p.1+c.toNat) % 65521) % 65521)
def sums (l:List UInt8):Nat×Nat:=l.foldl sumStep (1,0)
theorem sums_snoc (c:UInt8):sums (l++[c])=sumStep (sums l) c:=by simp[sums]
theorem sums_lt:(sums l).1 < 65521/\(sums l).2 < 65521:=by
 rcases List.eq_nil_or_concat l with rfl|⟨r,c,rfl⟩
 .simp[sums]
 .rw [List.concat_eq_append,sums_snoc];exact⟨Nat.mod_lt _ Aaa,Nat.mod_lt _ Aaa⟩
theorem take_snoc (s:ByteArray) (k:Nat) (h:k < s.size):s.data.toList.take (k+1)=s.data.toList.take k++[s[k]]:=by
 rw [aGt Abd];rfl
theorem take_all (s:ByteArray) (k:Nat) (h:¬k < s.size):s.data.toList.take k=s.data.toList:=by
 apply aHR
 simp only[aG2];show s.size<=k
 omega
def keyByte (c:UInt8):Bool:=decide (97<=(c.toNat:Int)/\(c.toNat:Int)<=122)||decide (48<=(c.toNat:Int)/\(c.toNat:Int)<=57)
theorem keyByte_yes (c:UInt8) (h:(97<=(c.toNat:Int)/\(c.toNat:Int)<=122)\/(48<=(c.toNat:Int)/\(c.toNat:Int)<=57)):keyByte c=true:=by
 unfold keyByte;simp;omega
theorem keyByte_no (c:UInt8) (h:(c.toNat:Int) < 48\/(57 < (c.toNat:Int)/\(c.toNat:Int) < 97)\/122 < (c.toNat:Int)):keyByte c=false:=by
 unfold keyByte;simp;omega
theorem byte_cases (c:UInt8):((97<=(c.toNat:Int)/\(c.toNat:Int)<=122)\/(48<=(c.toNat:Int)/\(c.toNat:Int)<=57))\/((c.toNat:Int) < 48\/(57 < (c.toNat:Int)/\(c.toNat:Int) < 97)\/122 < (c.toNat:Int)):=Aaa
def keyOk (l:List UInt8):Bool:=l.all keyByte&&decide (1<=l.length/\l.length<=10)
theorem all_snoc (c:UInt8):(l++[c]).all keyByte=(l.all keyByte&&keyByte c):=Aac
theorem keyOk_bad (k:Nat) (h:(l.take k).all keyByte=false):keyOk l=false:=by
 have:l.all keyByte=false:=by
  rw [List.all_eq_false] at h ⊢;obtain⟨x,hx,hp⟩:=h;exact⟨x,List.mem_of_mem_take hx,hp⟩
 simp[keyOk,this]
theorem keyOk_all (h:l.all keyByte=true):keyOk l=decide (1<=l.length/\l.length<=10):=by simp[keyOk,h]
theorem keyOk_len (h:¬(1<=l.length/\l.length<=10)):keyOk l=false:=by simp[keyOk];intro _;omega
end Go.Proofs.YtohmklmkjmlpjaaGreatDoor.Mth
namespace Go.Proofs.YtohmklmkjmlpjaaGreatDoor
open Go.Proofs.Tryz
open Go.RowKit
theorem Hq {p:Prop} (h:p):Hid p:=h
theorem ah {p:Prop} (h:Hid p):p:=h
theorem mQ {k:IntKind} {a b:Int} (h:a=b):Ending.returned (.int k a)= .returned (.int k b):=by rw [h]
theorem aF {a b:Bool} (h:a=b):Ending.returned (.bool a)= .returned (.bool b):=by rw [h]
theorem Vb {a b:ByteArray} (h:a=b):Ending.returned (.string a)= .returned (.string b):=by rw [h]
theorem aW (s:ByteArray):s.data.toList.length=s.size:=Aac
theorem kX (s:ByteArray) (h:0 < s.size):s.toList.isEmpty=false:=by
 rw [aG8,List.isEmpty_eq_false_iff,<-List.length_pos_iff,aW];exact h
theorem eq_empty (s:ByteArray) (h:s.size=0):s=ByteArray.empty:=by
 apply aHE;apply Array.eq_empty_of_size_eq_zero;exact h
theorem sG {W w1:World} (hb:Below W.heap.size W w1):(∀b o,b < W.heap.size->w1.cell? ⟨b,o,none⟩=W.cell? ⟨b,o,none⟩)/\(∀b o,b < W.heap.size->w1.frozen? ⟨b,o,none⟩=W.frozen? ⟨b,o,none⟩):=
 ⟨λb o h=>hb.cell (p:=⟨b,o,none⟩) h,λb o h=>hb.frozen (p:=⟨b,o,none⟩) h⟩
abbrev aI (w w':World):Prop:=Below w.heap.size w w'
abbrev dZ (w:World) (v:Value) (e:Ending) (w':World):Prop:=e= .returned v/\Below w.heap.size w w'
abbrev Ge (w w':World):Prop:=aI w w'
theorem Ge.trans {a b c:World} (h:Ge a b) (h':Ge b c):Ge a c:=Below.trans h (Below.mono h' (Below.size h))
abbrev Gr (w:World) (p:Regrown):World:=Sort.grow (redrawn w p.d) p.os
section
variable {P:Program} {ops:Array Oper} {Q:Exit->Act->World->Prop} {md:Region.Mode}
def iq (P:Program) (md:Region.Mode) (ops:Array Oper) (Q:Exit->Act->World->Prop):Nat->Array Bool->Act->World->Prop
 |0,listed,a,w=>Region.ready md ops listed=[]/\∀x,Ge w x->Q .normal a x
 |fuel+1,listed,a,w=>∀x,Ge w x->(Region.ready md ops listed=[]->Q .normal a x)/\∀i∈Region.ready md ops listed,wpOp P ops Q i (λa' y=>Ge x y/\iq P md ops Q fuel (listed.setIfInBounds i true) a' y) a x
theorem Hl {fuel:Nat} {listed:Array Bool} {a:Act} {w x:World} (hx:Ge w x) (h:iq P md ops Q fuel listed a w):iq P md ops Q fuel listed a x:=by
 exact ae1
theorem Bg:∀(fuel:Nat) (listed:Array Bool) (a:Act) (w:World),iq P md ops Q fuel listed a w->wpAny P md ops Q fuel listed a w
 |0,_,_,w,h=>⟨h.1,h.2 w (aGs _ _)⟩
 |fuel+1,_,_,w,h=>⟨(h w (aGs _ _)).1,λi hi=>wpOp_mono (λa' y hy=>Bg fuel _ a' y hy.2) ((h w (aGs _ _)).2 i hi)⟩
def pW (P:Program) (ops:Array Oper) (o:Oper) (v:Value) (a:Act) (w:World):Prop:=
 (Region.wanted o (yielded ops a.tmps)=true/\∀x,Ge w x->Oper.quietUpon P (Ge x) x v ((execOp a.eval o).run P x))\/(Region.wanted o (yielded ops a.tmps)=false/\v=undef)
theorem pW.wpOp {i:Nat} {o:Oper} {v:Value} {a:Act} {w x:World} (hi:ops[i]?=some o) (hy:pW P ops o v a w) (hx:Ge w x) {K:Act->World->Prop} (h:∀y,Ge x y->K (a.put o.dst v) y):wpOp P ops Q i K a x:=by
 unfold Go.wpOp;simp only[hi];rcases hy with⟨hw,hv⟩|⟨hw,rfl⟩
 .rw [aGC hw];left
  have h1:=hv x hx;unfold Oper.wp;generalize (execOp a.eval o).run P x=r at *;cases r with
  |halt e y=>simp only[Oper.quietUpon] at h1
  |ok n y=>
   cases n<;>simp only[Oper.quietUpon] at h1<;>simp only[Oper.upon]
   case value u=>obtain⟨rfl,rfl⟩:=h1;exact h _ (aGs _ _)
   case skip=>obtain⟨rfl,rfl⟩:=h1;exact h _ (aGs _ _)
   case enter f args=>
    obtain⟨rfl,hc⟩:=h1;exact hc.mono λe z ⟨he,hz⟩=>by subst he;exact h z hz
 .rw [aGr (by rw [hw];simp)];exact h _ (aGs _ _)
theorem Z0 {j:Nat} {oi oj:Oper} {v:Value} (hj:ops[j]?=some oj) (hap:oi.apart ops oj=true) (hsi:∀cs b,oi.op≠ .select cs b) (hsj:∀cs b,oj.op≠ .select cs b)
 (hQ:∀c a w,Q (.panic c) (a.put oi.dst v) w->Q (.panic c) a w) {K:Act->World->Prop} {a:Act} {x:World} (h:wpOp P ops Q j K (a.put oi.dst v) x):
 wpOp P ops Q j (λa' y=>(execOp a'.eval oi=execOp a.eval oi/\Region.wanted oi (yielded ops a'.tmps)=Region.wanted oi (yielded ops a.tmps))/\K (a'.put oi.dst v) y) a x:=by
 obtain⟨g1,g2,g3⟩:=Oper.apart_spec hap;have same:∀(b:Act) u,execOp (b.put oj.dst u).eval oi=execOp b.eval oi/\Region.wanted oi (yielded ops (b.put oj.dst u).tmps)=Region.wanted oi (yielded ops b.tmps):=λb u=>⟨execOp_put oi hsi b oj.dst u g3,wanted_put oi b oj.dst u g3⟩
 unfold wpOp at *;simp only[hj] at *;rw [wanted_put oj a oi.dst v g1] at h;by_cases hw:Region.wanted oj (yielded ops a.tmps)=true
 .rw [aGC hw] at h ⊢;rcases h with h|⟨h,hl⟩
  .left
   unfold Oper.wp at *;rw [execOp_put oj hsj a oi.dst v g1] at h;generalize (execOp a.eval oj).run P x=r at *;cases r with
   |halt e y=>cases e<;>simp only[Oper.upon] at h ⊢;exact hQ _ _ _ h
   |ok n y=>
    cases n<;>simp only[Oper.upon] at h ⊢
    case value u=>exact⟨same a u,by rw [<-Act.put_comm a v u g2];exact h⟩
    case skip=>exact⟨same a _,by rw [<-Act.put_comm a v undef g2];exact h⟩
    case defer d=>
     refine⟨same {a with defers:=d::a.defers} _,?_⟩;rw [<-Act.put_comm _ v undef g2,<-Act.put_defers];exact h
    case enter f args=>
     refine Calls.mono h λe z he=>?_
     cases e with
     |returned u=>exact⟨same a u,by rw [<-Act.put_comm a v u g2];exact he⟩
     |panicked c=>exact hQ _ _ _ he
     |outgrown=>exact he
    case row r args=>exact Rows.mono h λu z he=>⟨same a u,by rw [<-Act.put_comm a v u g2];exact he⟩
  .right
   refine⟨?_,hl⟩;unfold Oper.asks at *;rw [execOp_put oj hsj a oi.dst v g1] at h;exact h
 .rw [aGr hw] at h ⊢;exact⟨same a _,by rw [<-Act.put_comm a v undef g2];exact h⟩
theorem wX {i:Nat} {oi:Oper} {v:Value} (hi:ops[i]?=some oi) (hsel:∀(j:Nat) (o:Oper) cs b,ops[j]?=some o->o.op≠ .select cs b) (hQ:∀c a w,Q (.panic c) (a.put oi.dst v) w->Q (.panic c) a w):
 ∀(fuel:Nat) (listed:Array Bool) (a:Act) (w:World),
  (∀j oj,ops[j]?=some oj->j≠i->listed.getD j true=false->(∀e∈oj.after,Region.binds md e=true->e.on≠i)->oi.apart ops oj=true)->
  i∈Region.ready md ops listed->pW P ops oi v a w->iq P md ops Q fuel (listed.setIfInBounds i true) (a.put oi.dst v) w->iq P md ops Q (fuel+1) listed a w:=by
 intro fuel;induction fuel with
 |zero=>
  intro listed a w _ hr hy H x hx;refine⟨λh=>Abz,λj hj=>?_⟩;by_cases hji:j=i
  .exact ajN
  .exact O6
 |succ fuel ih=>
  intro listed a w hfree hr hy H x hx;refine⟨λh=>Abz,λj hj=>?_⟩;by_cases hji:j=i
  .exact ajN
  .have h1:=(H x hx).2 j (ready_mono hj hji);open aDk in exact aeN
theorem aV (i:Nat) {oi:Oper} {fuel:Nat} {listed:Array Bool} {a:Act} {w:World} (hi:ops[i]?=some oi) (hs:Region.noSelect ops=true) (hf:Region.free md ops listed i=true) (hr:(Region.ready md ops listed).contains i=true)
 (hQ:∀v c a w,Q (.panic c) (a.put oi.dst v) w->Q (.panic c) a w)
 (h:∀K:Act->Prop,(∀a',iq P md ops Q fuel (listed.setIfInBounds i true) a' w->K a')->if Region.wanted oi (yielded ops a.tmps) then∃v,(∀p:Regrown,Oper.quietUpon P (Ge (Gr w p)) (Gr w p) v ((execOp a.eval oi).run P (Gr w p)))/\K (a.put oi.dst v) else K (a.put oi.dst undef)):
 iq P md ops Q (fuel+1) listed a w:=by
 have h':=h _ λ_ h=>h
 by_cases hw:Region.wanted oi (yielded ops a.tmps)=true
 .rw [aGC hw] at h';obtain⟨v,hv,hk⟩:=h';refine wX hi (aHc hs) (hQ v) fuel listed a w (aHv hi hf) Aau (.inl ⟨hw,λx hx=>?_⟩) hk;exact abx
 .rw [aGr hw] at h';exact wX hi (aHc hs) (hQ undef) fuel listed a w (aHv hi hf) Aau (.inr ⟨Aca,rfl⟩) h'
theorem gM (i:Nat) {oi:Oper} {fuel:Nat} {listed:Array Bool} {a:Act} {w:World} (hi:ops[i]?=some oi) (hr:Region.ready md ops listed=[i]) (hw:Region.wanted oi (yielded ops a.tmps)=true)
 (h:∀x,Ge w x->oi.wp P a x (λa' y=>Ge x y/\iq P md ops Q fuel (listed.setIfInBounds i true) a' y) Q):iq P md ops Q (fuel+1) listed a w:=by
 intro x hx;exact aiW
theorem fF {listed:Array Bool} {a:Act} {w:World} (hr:Region.ready md ops listed=[]) (h:∀x,Ge w x->Q .normal a x):iq P md ops Q 0 listed a w:=⟨hr,h⟩
theorem dB {id:Nat} {a:Act} {w:World} (hm:P.follows .mixedOrders=true) (h:iq P .any ops Q ops.size (Array.replicate ops.size false) a w):(Code.region id ops true).wp P Q a w:=
 wp_region_any hm (Bg _ _ _ _ (Hl (w:=w) (x:={w with drawn:=w.drawn+1}) ⟨rfl,rfl,rfl,aGh _,λ_ _=>rfl⟩ h))
end
open Go.RowKit
def bv (c:UInt8):Value:= .int .u8 (c.toNat:Int)
theorem TV {P:Program} {w:World} {base:Nat} {e:TypeId} {v:Value} {l:List UInt8} (src dst:TypeId) (hs:P.underlying src=some (.slice e)) (he:P.underlying e=some (.int .u8)) (hd:P.underlying dst=some .string)
 (h:w.ownsRow base e 1 v l.length (l.map bv)):(convert src dst v).run P w= .ok (.string ⟨l.toArray⟩) w:=by
 rcases h.2 with⟨rfl,hn⟩|⟨g,cap,cur,rfl,_⟩
 .rw [run_convert_bytes_string w src dst e none 0 0 hs he hd];have:l=[]:=List.length_eq_zero_iff.1 hn;subst this;rfl
 .apply aH3 w src dst e _ cap l hs he hd
  intro j hj;exact h.cells rfl j (bv l[j]) (by simp[hj])
theorem QI {w:World} {base:Nat} {e:TypeId} {v:Value} {l:List UInt8} {z:Int} (b:UInt8) (hz:z=b.toNat) (h:w.ownsRow base e 1 v (l.length+1) (l.map bv++[.int .u8 z])):
 w.ownsRow base e 1 v (l++[b]).length ((l++[b]).map bv):=by
 subst hz;have e1:(l++[b]).map bv=l.map bv++[.int .u8 (b.toNat:Int)]:=by simp[bv]
 rw [e1];simpa using h
theorem below_append {w wr w1:World} {e:TypeId} {v:Value} {n:Nat} {xs:List Value} {o:Obj} (hb:aI w wr) (hown:wr.ownsRow w.heap.size e 1 v n xs) (hg:(wr.alloc o).grownBy w1 v.ownBlock):aI w w1:=
 (hb.alloc (by have:=hb.size;omega) o).grown hg (by have:=hb.size;simp;omega) (λk hk=>(hown.lt k hk).1)
set_option maxHeartbeats 1000000
set_option maxRecDepth 100000
theorem infoByte:(prog.info? 5).map (λi=>(i.zero,i.size,i.bytes))=some (some (.int .u8 0),1,1):=Aab
theorem sizeByte:(prog.info? 5).map (·.size)=some 1:=Aab
theorem cellsByte:prog.cellsOf 5=1:=Aab
theorem Ir (w:World):Calls prog 122 #[.string ByteArray.empty] w λe w'=>e= .returned (.string ByteArray.empty)/\w=w':=by
 go_in
 go_wp2
 go_ret;exact⟨rfl,rfl⟩
theorem UH (n:Nat) (hn:n<=281474976710656):∃M:Array Value,M.size=n/\∀W:World,(Instr.makeSlice 162 (.int .i64 (n:Int)) (.int .i64 (n:Int))).run prog W= .ok (.slice (some ⟨W.heap.size,0,none⟩) n n) (W.alloc (.cells M 5)):=by
 obtain⟨i0,hi,hz0,hz1,hz2⟩:=aGV infoByte;refine⟨madeCells (Value.int .u8 0).cells (((n:Nat):Int).toNat*i0.size),by rw [size_madeCells,hz1];simp,λW=>?_⟩;simpa using run_make (P:=prog) W 162 5 i0 (.int .u8 0) underlying162 hi hz0 .i64 .i64 (n:Int) (n:Int) Aaa Aaa Abe Aaa
theorem abM (w:World) (s:ByteArray) (M:Array Value) (hM:M.size=s.size):∃Y:Array Value,Y.toList=s.data.toList.map bv/\
 (Builtin.copy_ #[162,9] 3 #[.slice (some ⟨w.heap.size,0,none⟩) s.size s.size,.string s]).run prog (w.alloc (.cells M 5))= .ok (goInt s.size) ((w.alloc (.cells M 5)).setRow w.heap.size Y):=by
 have h:=Lib.run_copy_row_string (P:=prog) (w.alloc (.cells M 5)) 162 9 3 5 w.heap.size 0 s.size s.size s M 5 underlying162 sizeByte (aGg w _) (aGh _) Aaa;refine⟨_,?_,h⟩;rw [List.toList_toArray,aIf,aHI,List.drop_of_length_le (by rw [aG2];omega),aHB];rfl
theorem ae9 (s:ByteArray) (w:World) (h0:0 < s.size) (hlim:s.size<=281474976710656):
 Calls prog 122 #[.string s] w (dZ w (.string s)):=by
 obtain⟨M,hMs,hmk⟩:=UH s.size hlim;obtain⟨Y,hY,hcp⟩:=abM w s M hMs;have hYs:Y.size=s.size:=by rw [<-aG2,hY];simp
 have hg:((w.alloc (.cells M 5)).setRow w.heap.size Y).heap[w.heap.size]?=some (.cells Y 5 (0,0)):=setRow_heap _ _ M _ 5 (0,0) (aGg w _)
 have hus:=Lib.run_unsafeString_row (P:=prog) ((w.alloc (.cells M 5)).setRow w.heap.size Y) 202 3 9 5 underlying202 cellsByte w.heap.size Y.size (by unfold World.shape?;rw [hg]) s.data.toList
  (λe=>by have:=aW s;rw [e] at this;simp at this;omega) (by rw [aW];omega) (by rw [aW];omega)
  (λj x hx=>Lib.cells_of_row hg Y.size j _ (by rw [aHR (by rw [aG2];exact aGh _),hY];simp[bv,hx]))
 rw [aW,Lib.mk_data] at hus;have hne:((s.size:Int) == 0)=false:=aHS.2 Aaa;have hlt:(0:Int) < (s.size:Int):=Aaa
 clear hY hMs hg;go_in
 go_wp2
 go_ret;exact⟨rfl,Lib.below_freeze (below_setRow ((aGs _ w).alloc (aGh _) _) (aGh _) Y) (p:=⟨w.heap.size,0,none⟩) (aGh _) _⟩
theorem clone (s:ByteArray) (w:World) (hlim:s.size<=281474976710656):
 Calls prog 67 #[.string s] w (dZ w (.string s)):=by
 by_cases h0:0 < s.size
 .go_in
  go_wp2_with (go_at_call 122;refine(ae9 s _ h0 hlim).mono ?_;rintro e w' ⟨rfl,hbel⟩)
  go_ret;exact⟨rfl,hbel⟩
 .obtain rfl:=eq_empty s Aaa;go_in
  go_wp2_with (go_at_call 122;refine(Ir _).mono ?_;rintro e w' ⟨rfl,rfl⟩)
  go_ret;exact⟨rfl,aGs _ _⟩
end Go.Proofs.YtohmklmkjmlpjaaGreatDoor
namespace Go.Proofs.YtohmklmkjmlpjaaGreatDoor.Mth
open Go.Proofs.Tryz
open Go.Lib (decDigits itoa)
theorem digits_small (v:Nat) (h:v < 10):decDigits v=[UInt8.ofNat (48+v)]:=by rw [decDigits,dif_pos h]
theorem digits_big (v:Nat) (h:¬v < 10):decDigits v=decDigits (v / 10)++[UInt8.ofNat (48+v % 10)]:=by rw [decDigits,dif_neg h]
end Go.Proofs.YtohmklmkjmlpjaaGreatDoor.Mth
namespace Go.Proofs.YtohmklmkjmlpjaaGreatDoor
open Go.Proofs.Tryz
open Go.RowKit
open Go.Lib (decDigits itoa)
def nK (a:Nat):List UInt8:=if a=0 then[] else decDigits a
theorem left_step (a:Nat) (l t:List UInt8) (h0:a≠0) (h:nK a++l=t):nK (a / 10)++(UInt8.ofNat (48+a % 10)::l)=t:=by
 unfold nK at *;rw [aGr h0] at h;by_cases hs:a < 10
 .have e1:a / 10=0:=Aaa
  have e2:a % 10=a:=Aaa
  rw [Mth.digits_small a hs] at h;rw [e1,e2,aGC rfl];simpa using h
 .rw [Mth.digits_big a hs] at h;rw [aGr Aaa,<-h];simp
set_option maxHeartbeats 1000000
set_option maxRecDepth 100000
open Go.Lib (decDigits)
def mark (k:Nat):ByteArray:=⟨(109::decDigits k).toArray⟩
theorem one_add (b:UInt8) (l:List UInt8):(ByteArray.mk #[b])++⟨l.toArray⟩=⟨(b::l).toArray⟩:=by
 apply aHE;simp
theorem abL (w:World) (z:Int) (b:UInt8) (hz:z=b.toNat) (cap:Nat):(convert 162 9 (.slice (some ⟨w.heap.size,0,none⟩) 1 cap)).run prog (w.alloc (.cells #[.int .u8 z] 5))= .ok (.string ⟨#[b]⟩) (w.alloc (.cells #[.int .u8 z] 5)):=by
 subst hz
 have:=aH3 (P:=prog) (w.alloc (.cells #[.int .u8 (b.toNat:Int)] 5)) 162 9 5 ⟨w.heap.size,0,none⟩ cap [b] underlying162 underlying5 underlying9 (λj hj=>by
  have:j=0:=Aav
  subst this;simp[Addr.add])
 simpa using this
theorem adj (k:Nat) (w:World) (h0:0 < k) (hk:(k:Int)<=9223372036854775807):
 Calls prog 89 #[.int .i64 k] w (dZ w (.string (mark k))):=by
 have hlen:(decDigits k).length<=21:=by have:=Lib.itoa_length_le k Aaa hk;rw [Lib.itoa,aGr Aaa] at this;simpa using this
 have hpos:decide ((k:Int)<=0)=false:=Aag
 go_in
 go_wp2
 go_loopw [0,3] (λm o wr=>∃(a:Nat) (l:List UInt8),a<=k/\m= .int .i64 a/\o= .string ⟨l.toArray⟩/\nK a++l=decDigits k/\aI w wr) (λm _ _=>(intOf m).toNat)
 case atStart=>exact⟨k,[],aGh _,rfl,rfl,by unfold nK;rw [aGr Aaa];simp,aGs _ _⟩
 case round=>
  obtain⟨a,l,ha,rfl,rfl,hl,hbel⟩:=hrel;have HL:=Hq hl;have hll:l.length<=21:=by have:=congrArg List.length hl;rw [aGp] at this;omega
  clear hl;by_cases hz:a=0
  .subst hz;have HE:=Hq (show l=decDigits k by have:=ah HL;simpa [nK] using this);have hA:=Hq (one_add 109 l);clear HL;go_wp2
   go_ret;exact⟨Vb (by unfold mark;rw [<-ah HE];exact hA),hbel⟩
  .have HS:=Hq (left_step a l _ hz HL);obtain⟨b,hb⟩:∃b,b=UInt8.ofNat (48+a % 10):=⟨_,rfl⟩;rw [<-hb] at HS;have hA:=Hq (one_add b l);have ace:=abL wr (48+(a:Int) % 10) b (by rw [hb,Mth.toNat_byte _ Aaa];omega) 1;clear HL hb;go_wp2
   go_roundw
   case rel=>exact⟨a / 10,_,Aaa,Aaf,by rw [ah hA],HS,by first|exact hbel.alloc (by have:=hbel.size;omega) _|exact(hbel.alloc (by have:=hbel.size;omega) _).drew⟩
   case measure=>simp[intOf];omega
end Go.Proofs.YtohmklmkjmlpjaaGreatDoor
namespace Go.Proofs
open Go.Shelf YtohmklmkjmlpjaaGreatDoor
def Tryz.sortL_ren:Go.Shelf.Ren:=⟨fun|5=>233|8=>258|7=>257|19=>283|20=>284|10=>274|11=>275|12=>276|13=>277|14=>278|15=>279|16=>280|17=>281|18=>282|30=>295|31=>296|32=>297|33=>298|34=>299|35=>300|40=>308|n=>n,fun|23=>22|25=>3|3=>3|32=>220|22=>22|0=>0|44=>104|46=>322|4=>4|36=>314|35=>313|41=>232|5=>5|9=>9|53=>343|57=>347|63=>361|64=>157|n=>n,fun|n=>n⟩
theorem Tryz.sortL:Go.Proofs.SlLaysM.n5 Tryz.prog Tryz.sortL_ren:={
 mixed:=Aab
 f5:=⟨Tryz.f233.name,Aae,Tryz.func233.trans (congrArg some Aab)⟩
 f7:=⟨Tryz.f257.name,Aae,Tryz.func257.trans (congrArg some Aab)⟩
 f8:=Tryz.func258.trans (congrArg some Aab)
 f10:=⟨Tryz.f274.name,Aae,Tryz.func274.trans (congrArg some Aab)⟩
 f11:=⟨Tryz.f275.name,Aae,Tryz.func275.trans (congrArg some Aab)⟩
 f12:=⟨Tryz.f276.name,Aae,Tryz.func276.trans (congrArg some Aab)⟩
 f13:=⟨Tryz.f277.name,Aae,Tryz.func277.trans (congrArg some Aab)⟩
 f14:=⟨Tryz.f278.name,Aae,Tryz.func278.trans (congrArg some Aab)⟩
 f15:=⟨Tryz.f279.name,Aae,Tryz.func279.trans (congrArg some Aab)⟩
 f16:=⟨Tryz.f280.name,Aae,Tryz.func280.trans (congrArg some Aab)⟩
 f17:=⟨Tryz.f281.name,Aae,Tryz.func281.trans (congrArg some Aab)⟩
 f18:=⟨Tryz.f282.name,Aae,Tryz.func282.trans (congrArg some Aab)⟩
 f19:=Tryz.func283.trans (congrArg some Aab)
 f20:=Tryz.func284.trans (congrArg some Aab)
 f30:=⟨Tryz.f295.name,Aae,Tryz.func295.trans (congrArg some Aab)⟩
 f31:=Tryz.func296.trans (congrArg some Aab)
 f32:=Tryz.func297.trans (congrArg some Aab)
 f33:=⟨Tryz.f298.name,Aae,Tryz.func298.trans (congrArg some Aab)⟩
 f34:=⟨Tryz.f299.name,Aae,Tryz.func299.trans (congrArg some Aab)⟩
 f35:=⟨Tryz.f300.name,Aae,Tryz.func300.trans (congrArg some Aab)⟩
 f40:=⟨Tryz.f308.name,Aae,Tryz.func308.trans (congrArg some Aab)⟩
 t0:=Tryz.underlying0
 a0:=Tryz.isAgg0
 z0:=Tryz.sizeOf0
 v0:=Tryz.zeroValue0
 t3:=Tryz.underlying3
 a3:=Tryz.isAgg3
 z3:=Tryz.sizeOf3
 v3:=Tryz.zeroValue3
 t4:=Tryz.underlying4
 a4:=Tryz.isAgg4
 z4:=Tryz.sizeOf4
 v4:=Tryz.zeroValue4
 t5:=Tryz.underlying5
 a5:=Tryz.isAgg5
 z5:=Tryz.sizeOf5
 v5:=Tryz.zeroValue5
 t9:=Tryz.underlying9
 a9:=Tryz.isAgg9
 z9:=Tryz.sizeOf9
 v9:=Tryz.zeroValue9
 t22:=Tryz.underlying22
 a22:=Tryz.isAgg22
 z22:=Tryz.sizeOf22
 v22:=Tryz.zeroValue22
 t23:=Tryz.underlying22
 a23:=Tryz.isAgg22
 z23:=Tryz.sizeOf22
 v23:=Tryz.zeroValue22
 t25:=Tryz.underlying3
 a25:=Tryz.isAgg3
 z25:=Tryz.sizeOf3
 v25:=Tryz.zeroValue3
 t32:=Tryz.underlying220
 a32:=Tryz.isAgg220
 z32:=Tryz.sizeOf220
 v32:=Tryz.zeroValue220
 t35:=Tryz.underlying313
 a35:=Tryz.isAgg313
 z35:=Tryz.sizeOf313
 v35:=Tryz.zeroValue313
 t36:=Tryz.underlying314
 a36:=Tryz.isAgg314
 z36:=Tryz.sizeOf314
 v36:=Tryz.zeroValue314
 t41:=Tryz.underlying232
 a41:=Tryz.isAgg232
 z41:=Tryz.sizeOf232
 v41:=Tryz.zeroValue232
 t44:=Tryz.underlying104
 a44:=Tryz.isAgg104
 z44:=Tryz.sizeOf104
 v44:=Tryz.zeroValue104
 t46:=Tryz.underlying322
 a46:=Tryz.isAgg322
 z46:=Tryz.sizeOf322
 v46:=Tryz.zeroValue322
 t53:=Tryz.underlying343
 a53:=Tryz.isAgg343
 z53:=Tryz.sizeOf343
 v53:=Tryz.zeroValue343
 t57:=Tryz.underlying347
 a57:=Tryz.isAgg347
 z57:=Tryz.sizeOf347
 v57:=Tryz.zeroValue347
 t63:=Tryz.underlying361
 a63:=Tryz.isAgg361
 z63:=Tryz.sizeOf361
 v63:=Tryz.zeroValue361
 t64:=Tryz.underlying157
 a64:=Tryz.isAgg157
 z64:=Tryz.sizeOf157
 v64:=Tryz.zeroValue157}
end Go.Proofs
namespace Go.Proofs.YtohmklmkjmlpjaaGreatDoor
open Go.Proofs.Tryz
open Go.RowKit
section
variable {P:Program} {ops:Array Oper} {Q:Exit->Act->World->Prop} {md:Region.Mode}
theorem yx {w x:World} {b o:Nat} {cs:List Value} (h:w.rangeAt b o cs) (hb:b < w.heap.size) (hx:Ge w x):x.rangeAt b o cs:=λj v hv=>by
 rw [Below.cell (p:=⟨b,o+j,none⟩) hx hb];exact h j v hv
theorem xO (i:Nat) {oi:Oper} {fuel:Nat} {listed:Array Bool} {a:Act} {w:World} (hi:ops[i]?=some oi) (hs:Region.noSelect ops=true) (hf:Region.free md ops listed i=true) (hr:(Region.ready md ops listed).contains i=true)
 (hQ:∀v c a w,Q (.panic c) (a.put oi.dst v) w->Q (.panic c) a w) (hw:Region.wanted oi (yielded ops a.tmps)=true)
 (ty:TypeId) (x:Operand) (ho:oi.op= .load ty x) (b o:Nat) (hx:a.eval x= .pointer (some ⟨b,o,none⟩)) (cs:List Value) (d:TypeDesc) (hc:w.rangeAt b o cs) (hb:b < w.heap.size)
 (hu:P.underlying ty=some d) (hd:d.isRow=true) (hz:(P.info? ty).map (·.size)=some cs.length)
 (h:iq P md ops Q fuel (listed.setIfInBounds i true) (a.put oi.dst (.agg cs.toArray)) w):iq P md ops Q (fuel+1) listed a w:=by
 refine wX hi (aHc hs) (hQ _) fuel listed a w (aHv hi hf) Aau (.inl ⟨hw,λy hy=>?_⟩) h;unfold execOp;simp only[ho,hx,Instr.loadAt,Instr.sureAddr,Sem.run_bind,Sem.run_pure,Result.andThen_ok,run_loadVar_mid y b o ty cs d (yx hc hb hy) hu hd hz];exact⟨rfl,rfl⟩
end
end Go.Proofs.YtohmklmkjmlpjaaGreatDoor
namespace Go.Proofs
open Go.Shelf YtohmklmkjmlpjaaGreatDoor
def Tryz.keysL_ren:Go.Shelf.Ren:=⟨fun|7=>269|10=>291|n=>n,fun|23=>291|26=>3|3=>125|28=>299|0=>0|27=>298|33=>89|4=>4|n=>n,fun|n=>n⟩
theorem Tryz.keysL:Go.Proofs.SlLaysZI.n7 Tryz.prog Tryz.keysL_ren:={
 mixed:=Aab
 f7:=⟨Tryz.f269.name,Aae,Tryz.func269.trans (congrArg some Aab)⟩
 f10:=⟨Tryz.f291.name,Aae,Tryz.func291.trans (congrArg some Aab)⟩
 t0:=Tryz.underlying0
 a0:=Tryz.isAgg0
 z0:=Tryz.sizeOf0
 v0:=Tryz.zeroValue0
 t4:=Tryz.underlying4
 a4:=Tryz.isAgg4
 z4:=Tryz.sizeOf4
 v4:=Tryz.zeroValue4
 t23:=Tryz.underlying291
 a23:=Tryz.isAgg291
 z23:=Tryz.sizeOf291
 v23:=Tryz.zeroValue291
 t26:=Tryz.underlying3
 a26:=Tryz.isAgg3
 z26:=Tryz.sizeOf3
 v26:=Tryz.zeroValue3
 t27:=Tryz.underlying298
 a27:=Tryz.isAgg298
 z27:=Tryz.sizeOf298
 v27:=Tryz.zeroValue298
 t28:=Tryz.underlying299
 a28:=Tryz.isAgg299
 z28:=Tryz.sizeOf299
 v28:=Tryz.zeroValue299
 t33:=Tryz.underlying89
 a33:=Tryz.isAgg89
 z33:=Tryz.sizeOf89
 v33:=Tryz.zeroValue89}
def Tryz.sortedL_ren:Go.Shelf.Ren:=⟨fun|6=>268|8=>290|9=>233|11=>307|13=>258|12=>257|23=>283|24=>284|14=>274|15=>275|16=>276|17=>277|18=>278|19=>279|20=>280|21=>281|22=>282|25=>295|26=>296|27=>297|28=>298|29=>299|30=>300|31=>308|n=>n,fun|26=>3|28=>299|24=>22|0=>0|3=>3|37=>220|48=>104|50=>322|4=>4|40=>314|39=>313|45=>232|5=>5|9=>9|51=>343|55=>347|57=>361|58=>157|33=>89|n=>n,fun|n=>n⟩
theorem Tryz.sortedL:Go.Proofs.SlLaysZI.n6 Tryz.prog Tryz.sortedL_ren:={
 mixed:=Aab
 f6:=⟨Tryz.f268.name,Aae,Tryz.func268.trans (congrArg some Aab)⟩
 f8:=⟨Tryz.f290.name,Aae,Tryz.func290.trans (congrArg some Aab)⟩
 f11:=⟨Tryz.f307.name,Aae,Tryz.func307.trans (congrArg some Aab)⟩
 t0:=Tryz.underlying0
 a0:=Tryz.isAgg0
 z0:=Tryz.sizeOf0
 v0:=Tryz.zeroValue0
 t24:=Tryz.underlying22
 a24:=Tryz.isAgg22
 z24:=Tryz.sizeOf22
 v24:=Tryz.zeroValue22
 t26:=Tryz.underlying3
 a26:=Tryz.isAgg3
 z26:=Tryz.sizeOf3
 v26:=Tryz.zeroValue3
 t28:=Tryz.underlying299
 a28:=Tryz.isAgg299
 z28:=Tryz.sizeOf299
 v28:=Tryz.zeroValue299
 i26:=by kernel_rfl}
end Go.Proofs
namespace Go.Proofs.YtohmklmkjmlpjaaGreatDoor
open Go.Proofs.Tryz
open Go
theorem Bd {H:Type} {enc:TypeId×Value->H} {P:Program} {w:World} {sp:Nat->Bool}:∀{ns:List String} {gs:List (DataW H)} {ps:List MemPlace},DataW.TrodVars enc P w sp ns gs ps->gs.length=ns.length
 |[],[],_,_=>rfl
 |[],_::_,_,h=>h.elim
 |_::_,[],_,h=>h.elim
 |_::ns,_::ds,_,h=>by
  obtain⟨_,_,_,_,_,_,_,_,_,_,hs,_⟩:=h
  have:=Bd hs
  simp[this]
theorem Vr {α:Type} {gs:List α} (h:gs.length=5):∃a b c d e,gs=[a,b,c,d,e]:=by
 match gs,h with
 |[a,b,c,d,e],_=>exact⟨a,b,c,d,e,rfl⟩
end Go.Proofs.YtohmklmkjmlpjaaGreatDoor
