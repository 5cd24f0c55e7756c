import Derived.Test.YtbbopknnoamkbaaGreatDoorX5
import Derived.Test.YtbbopknnoamkbaaGreatDoorNR3
import Derived.Test.YtbbopknnoamkbaaGreatDoorD0
import Derived.Test.YtbbopknnoamkbaaGreatDoorQGrow
set_option maxHeartbeats 4000000
set_option maxRecDepth 100000
namespace Go.Proofs.YtbbopknnoamkbaaGreatDoor
open Go.RowKit
set_option linter.unusedVariables false
def erR(R:Except (Nat×Nat) JT):Nat:=match R with| .ok _=>0| .error (e,_)=>e
def plR(R:Except (Nat×Nat) JT):Nat:=match R with| .ok _=>0| .error (_,a)=>a
theorem prF_er(R:Except (Nat×Nat) JT):(prF R).2.1=erR R∧(prF R).2.2=plR R:=by
 cases R with
 | ok t=>exact⟨rfl,rfl⟩
 | error e=>obtain⟨e,a⟩:=e;exact⟨rfl,rfl⟩
theorem rread_long(s:ByteArray)(w:World)(hl:65536<s.size)(hs:s.size≤4611686018427387904):Calls Tryz.prog 20 #[.string s] w fun r w'=>r=.returned (.tuple #[.slice none 0 0,.int .i64 1,.int .i64 0])∧Below w.heap.size w w':=by
 have i1:(65536:Int)<(s.size:Int):=by omega
 go_enter Tryz.func20,Tryz.ntmps20;go_wp2;go_ret3
 exact⟨rfl,Below.refl _ _⟩
theorem rread_num(s:ByteArray)(w:World)(hs:s.size≤4611686018427387904):Calls Tryz.prog 20 #[.string s] w fun r w'=>((∃v,r=.returned (.tuple #[v,.int .i64 (erR (readL s.data.toList):Int),.int .i64 (plR (readL s.data.toList):Int)]))∧(erR (readL s.data.toList)=0→∃t,readL s.data.toList=.ok t))∧Below w.heap.size w w':=by
 by_cases hl:65536<s.size
 ·have e:readL s.data.toList=.error (1,0):=by unfold readL;rw[if_pos (by simpa using hl)]
  rw[e];refine(rread_long s w hl hs).mono ?_;rintro r w' ⟨rfl,hb⟩;exact⟨⟨⟨_,rfl⟩,fun h=>by simp[erR]at h⟩,hb⟩
 ·refine(rread s w (by omega)).mono ?_
  generalize readL s.data.toList=R;rintro r w' ⟨h,hb⟩;refine⟨?_,hb⟩;cases R with
  | ok t=>obtain⟨v,e,_⟩:=h;exact⟨⟨v,e⟩,fun _=>⟨t,rfl⟩⟩
  | error e=>obtain⟨e,a⟩:=e;exact⟨⟨_,h.1⟩,fun h0=>by have:=h.2;simp[erR]at h0;omega⟩
theorem print_num(s:ByteArray)(w:World)(hg:9≤w.heap.size)(hG:GV w)(htab:Lib.TabBelow Tryz.prog w.heap.size w "internal/strconv.uint64pow10" .u64 Lib.pow10Tab):Calls Tryz.prog 16 #[.string s] w fun r w'=>r=.returned (.tuple #[.string ⟨(prF (readL s.data.toList)).1.toArray⟩,.int .i64 (erR (readL s.data.toList):Int),.int .i64 (plR (readL s.data.toList):Int)])∧Below w.heap.size w w':=by
 have:=cprint s w hg hG htab;rw[(prF_er _).1,(prF_er _).2]at this;exact this
def ndR:Except (Nat×Nat) JT→List Nd| .ok t=>flat 0 [] t| .error _=>[]
theorem parse_num(s:ByteArray)(w:World)(hg:9≤w.heap.size)(hG:GV w):Calls Tryz.prog 19 #[.string s] w fun r w'=>((∃v kvs,r=.returned (.tuple #[v,.int .i64 (erR (readL s.data.toList):Int),.int .i64 (plR (readL s.data.toList):Int)])∧NK (w.heap.size+1) 42 v kvs (ndR (readL s.data.toList)) w'))∧Below w.heap.size w w':=
 (cparse s w hg hG).mono fun r w' hh=>⟨by
   have h:=hh.1;generalize readL s.data.toList=R at h;cases R with
   | ok t=>exact h
   | error q=>obtain⟨e,a⟩:=q;exact⟨_,[],h.1,NK.nil _ _ _⟩,hh.2⟩
theorem made_ints(n:Nat):madeCells (Value.int .i64 0).cells (n*1)=(upR [] n).toArray:=by
 apply Array.ext';rw[Nat.mul_one];have:=toList_madeCells_one (.int .i64 0) n;rw[show(Value.int .i64 0).cells= #[.int .i64 0]from rfl,this,upR_nil]
theorem lgrown(x:Value)(ns:List Nd)(w:World)(hx:RR 42 x ns w)(hw:WFN ns)(h0:0<ns.length)(hc:∀c,(allK ns).count c=if 0<c∧c<ns.length then 1 else 0):Calls Tryz.prog 21 #[x] w fun r w'=>r=.returned (.bool true)∧Below w.heap.size w w':=by
 obtain⟨i0,hi,hz0,hz1,hz2⟩:=info_parts intinfo;have hlen:=hw.len;have hmk:∀W:World,(Instr.makeSlice 40 (.int .i64 (ns.length:Int)) (.int .i64 (ns.length:Int))).run Tryz.prog W=.ok (.slice (some ⟨W.heap.size,0,none⟩) ns.length ns.length) (W.alloc (.cells (upR [] ns.length).toArray 3)):=fun W=>by
  have:=run_make (P:=Tryz.prog) W 40 3 i0 (.int .i64 0) Tryz.underlying40 hi hz0 .i64 .i64 (ns.length:Int) (ns.length:Int) (by omega) (by omega) (by rw[hz2];omega) (by omega);rw[hz1,Int.toNat_natCast,made_ints]at this;exact this
 clear hi hz0 hz1 hz2;have hne:((ns.length:Int)==0)=false:=by
  have:ns≠[]:=fun e=>by rw[e]at h0;simp at h0
  simp[this]
 have HX:Hid (RR 42 x ns w):=hx;have HC:Hid (∀c,(allK ns).count c=if 0<c∧c<ns.length then 1 else 0):=hc;have HW:Hid (WFN ns):=hw;obtain⟨ad,cap,rfl⟩:=hx.shape;clear hx hc hw;go_enter Tryz.func21,Tryz.ntmps21;go_wp2_with fail
 go_loopw [4] (fun iv wr=>∃i:Nat,i≤ns.length∧iv=.int .i64 (i:Int)∧wr.heap[w.heap.size]?=some (.cells (upR (allK (ns.take i)) ns.length).toArray 3 (0,0))∧Below w.heap.size w wr) (fun iv _=>ns.length-(intOf iv).toNat)
 case atStart=>exact⟨0,by omega,rfl,by rw[heap_alloc_new];rfl,bal (brf _) _⟩
 case round=>
  obtain⟨i,hi,rfl,hg,hb⟩:=hrel;by_cases hin:i<ns.length
  ·have k1:(i:Int)<(ns.length:Int):=by omega
   have hib:(i:Int)≤1000000:=by omega
   obtain⟨n,hn⟩:∃n,ns[i]?=some n:=⟨_,List.getElem?_eq_getElem hin⟩;obtain⟨g,kv,e1,ia,hkl,_,_,_,_,a4,_⟩:=HX.out.at' i n hn;obtain rfl:ad=some ⟨g,0,none⟩:=by injection e1
   obtain⟨adk,capk,rfl,cc⟩:=ia;have A4:Hid (w.cell? ⟨g,i*6+4,none⟩=some (.slice adk n.kids.length capk)):=a4;have CC:Hid (∀j k:Nat,n.kids[j]?=some k→∃g,adk=some ⟨g,0,none⟩∧w.cell? ⟨g,j,none⟩=some (.int .i64 (k:Int))):=cc;clear a4 cc;have HN:Hid (ns[i]?=some n):=hn;have HG:Hid (wr.heap[w.heap.size]?=some (.cells (upR (allK (ns.take i)) ns.length).toArray 3 (0,0))∧Below w.heap.size w wr):=⟨hg,hb⟩;have hkn:=HW.out.few i n hn;clear hn hg hb e1;go_wp2_with fail
   go_loopw [5] (fun kk wx=>∃k:Nat,k≤n.kids.length∧kk=.int .i64 (k:Int)∧wx.heap[w.heap.size]?=some (.cells (upR (allK (ns.take i)++n.kids.take k) ns.length).toArray 3 (0,0))∧Below w.heap.size w wx) (fun kk _=>n.kids.length-(intOf kk).toNat)
   case atStart=>exact⟨0,by omega,rfl,by rw[List.take_zero,List.append_nil];exact HG.out.1,HG.out.2⟩
   case round=>
    clear HG;obtain⟨k,hk,rfl,hg,hb⟩:=hrel;have a4:wr.cell? ⟨g,i*6+4,none⟩=some (.slice adk n.kids.length capk):=cell_kp hb A4.out;by_cases hkk:k<n.kids.length
    ·have k2:(k:Int)<(n.kids.length:Int):=by omega
     have hkb:(k:Int)≤1000000:=by omega
     obtain⟨c,hcc⟩:∃c,n.kids[k]?=some c:=⟨_,List.getElem?_eq_getElem hkk⟩;obtain⟨gk,rfl,d0w⟩:=CC.out k c hcc;have d0:wr.cell? ⟨gk,k,none⟩=some (.int .i64 (c:Int)):=cell_kp hb d0w;clear d0w;obtain⟨b1,b2⟩:=HW.out.kids i n HN.out c (List.mem_of_getElem? hcc);have hcl:(c:Int)<(ns.length:Int):=by omega
     have k3:¬(c:Int)≤(i:Int):=by omega
     have k4:¬(ns.length:Int)≤(c:Int):=by omega
     have hcnt:=pre_le ns i k n HN.out c;have hc1:=HC.out c;rw[if_pos (by omega)]at hc1;have u0:wr.cell? ⟨w.heap.size,c,none⟩=some (.int .i64 ((allK (ns.take i)++n.kids.take k).count c:Int)):=by rw[cell_of_row _ _ _ _ _ _ hg];exact upR_get _ _ _ b2
     have uf:wr.frozen? ⟨w.heap.size,c,none⟩=false:=frozen_of_row _ _ _ _ _ hg;have hq:((allK (ns.take i)++n.kids.take k).count c:Int)≤1:=by omega
     have hset:(wr.setCell ⟨w.heap.size,c,none⟩ (.int .i64 (((allK (ns.take i)++n.kids.take k).count c:Int)+1))).heap[w.heap.size]?=some (.cells (upR (allK (ns.take i)++n.kids.take (k+1)) ns.length).toArray 3 (0,0)):=by
      rw[heap_setCell_same _ _ _ _ _ _ hg,upR_set _ _ _ b2,List.take_add_one,hcc,←List.append_assoc];rfl
     have HS:Hid ((wr.setCell ⟨w.heap.size,c,none⟩ (.int .i64 (((allK (ns.take i)++n.kids.take k).count c:Int)+1))).heap[w.heap.size]?=some (.cells (upR (allK (ns.take i)++n.kids.take (k+1)) ns.length).toArray 3 (0,0))∧Below w.heap.size w (wr.setCell ⟨w.heap.size,c,none⟩ (.int .i64 (((allK (ns.take i)++n.kids.take k).count c:Int)+1)))):=⟨hset,hb.setCell (Nat.le_refl _) _⟩;have hq0:(0:Int)≤((allK (ns.take i)++n.kids.take k).count c:Int):=by omega
     clear hg hb hset hcnt hc1 hcc;generalize ((allK (ns.take i)++n.kids.take k).count c:Int)=q at *;go_wp2_with fail
     go_roundw
     case rel=>exact⟨k+1,by omega,by go_num,HS.out⟩
     case measure=>simp[intOf];omega
    ·have k2:¬(k:Int)<(n.kids.length:Int):=by omega
     obtain rfl:k=n.kids.length:=by omega
     have HR:Hid (wr.heap[w.heap.size]?=some (.cells (upR (allK (ns.take (i+1))) ns.length).toArray 3 (0,0))∧Below w.heap.size w wr):=⟨by rw[hg,List.take_length,take_kids ns i n HN.out],hb⟩;clear hg hb;go_wp2_with fail
     refine⟨⟨i+1,by omega,by rw[show((i+1:Nat):Int)=(i:Int)+1 by omega],HR.out⟩,?_⟩;simp only[intOf];omega
  ·have k1:¬(i:Int)<(ns.length:Int):=by omega
   rw[List.take_of_length_le (by omega)]at hg;have HR:Hid (wr.heap[w.heap.size]?=some (.cells (upR (allK ns) ns.length).toArray 3 (0,0))∧Below w.heap.size w wr):=⟨hg,hb⟩;clear hg hb hi;go_wp2_with fail
   go_loopw [7] (fun iv wx=>∃i:Nat,1≤i∧i≤ns.length∧iv=.int .i64 (i:Int)∧wx=wr) (fun iv _=>ns.length-(intOf iv).toNat)
   case atStart=>exact⟨1,by omega,by omega,rfl,rfl⟩
   case round=>
    obtain⟨j,hj0,hj,rfl,rfl⟩:=hrel;by_cases hin:j<ns.length
    ·have k3:(j:Int)<(ns.length:Int):=by omega
     have hjb:(j:Int)≤1000000:=by omega
     have u0:wr.cell? ⟨w.heap.size,j,none⟩=some (.int .i64 1):=by
      rw[cell_of_row _ _ _ _ _ _ HR.out.1,upR_get _ _ _ hin,HC.out j,if_pos (by omega)];rfl
     go_wp2_with fail
     go_roundw
     case rel=>exact⟨j+1,by omega,by omega,by go_num,trivial⟩
     case measure=>simp[intOf];omega
    ·have k3:¬(j:Int)<(ns.length:Int):=by omega
     have u0:wr.cell? ⟨w.heap.size,0,none⟩=some (.int .i64 0):=by
      rw[cell_of_row _ _ _ _ _ _ HR.out.1,upR_get _ _ _ h0,HC.out 0,if_neg (by omega)];rfl
     go_wp2;go_ret;exact⟨rfl,HR.out.2⟩
def AlkAt(x y:Value)(w:World)(p q:Nat):Prop:=∀w',Below w.heap.size w w'→Calls Tryz.prog 22 #[x,.int .i64 (p:Int),y,.int .i64 (q:Int)] w' fun r w''=>r=.returned (.bool true)∧Below w'.heap.size w' w''
def KAB(w:World)(CA CB:Array Value)(wr:World):Prop:=wr.heap[w.heap.size]?=some (.cells CA 42 (0,0))∧wr.heap[w.heap.size+1]?=some (.cells CB 42 (0,0))∧Below w.heap.size w wr
theorem KAB.below{w wr w':World}{CA CB:Array Value}(h:KAB w CA CB wr)(hb:Below wr.heap.size wr w'):KAB w CA CB w':=by
 refine⟨(hb.block _ (Array.getElem?_eq_some_iff.1 h.1).1).trans h.1,(hb.block _ (Array.getElem?_eq_some_iff.1 h.2.1).1).trans h.2.1,h.2.2.trans ⟨hb.os,hb.tape,hb.output,hb.size,fun k hk=>hb.block k (by have:=h.2.2.size;omega)⟩⟩
theorem KAB.drewN{w wr:World}{CA CB:Array Value}(h:KAB w CA CB wr)(n:Nat):KAB w CA CB (wr.drewN n):=⟨by simpa using h.1,by simpa using h.2.1,bdN h.2.2 n⟩
theorem lalike1(x y:Value)(L M:List Nd)(w:World)(hx:RR 42 x L w)(hy:RR 42 y M w)(hwL:WFN L)(hwM:WFN M)(i k:Nat)(a b:Nd)(ha:L[i]?=some a)(hb:M[k]?=some b)(hp:Pair L M (AlkAt x y w) a b):Calls Tryz.prog 22 #[x,.int .i64 (i:Int),y,.int .i64 (k:Int)] w fun r w'=>r=.returned (.bool true)∧Below w.heap.size w w':=by
 have HL:Hid (RR 42 x L w∧RR 42 y M w):=⟨hx,hy⟩;have HP:Hid (Pair L M (AlkAt x y w) a b):=hp;have HWL:Hid (WFN L∧WFN M):=⟨hwL,hwM⟩;have hlL:=hwL.len;have hlM:=hwM.len;have hil:i<L.length:=(List.getElem?_eq_some_iff.1 ha).1;have hkl:k<M.length:=(List.getElem?_eq_some_iff.1 hb).1;have hfa:=hwL.few i a ha;have hka:=hwL.kids i a ha;have hkb:=hwM.kids k b hb;obtain⟨g1,ka,e1,ia,_,a0,a1,a2,a3,a4,a5⟩:=hx.at' i a ha;obtain⟨g2,kb,e2,ib,_,b0,b1,b2,b3,b4,b5⟩:=hy.at' k b hb;obtain⟨ad1,cap1,rfl⟩:=hx.shape;obtain⟨ad2,cap2,rfl⟩:=hy.shape;obtain rfl:ad1=some ⟨g1,0,none⟩:=by injection e1
 obtain rfl:ad2=some ⟨g2,0,none⟩:=by injection e2
 have hg1:g1<w.heap.size:=World.block_lt_of_cell? w _ a0;have hg2:g2<w.heap.size:=World.block_lt_of_cell? w _ b0;rw[hp.kind]at b0;rw[hp.key]at b1;rw[hp.text]at b2;rw[hp.num]at b3;have IA:Hid (IR w ka a.kids):=ia;have IB:Hid (IR w kb b.kids):=ib;obtain⟨ada,capa,rfl,_⟩:=ia;obtain⟨adb,capb,rfl,_⟩:=ib;rw[hp.len]at b4;have hil':(i:Int)<(L.length:Int):=by omega
 have hkl':(k:Int)<(M.length:Int):=by omega
 have HKA:Hid ((∀c∈a.kids,i<c∧c<L.length)∧(∀c∈b.kids,k<c∧c<M.length)):=⟨hka,hkb⟩;clear hx hy hp hwL hwM ha hb e1 e2 hka hkb;go_enter Tryz.func22,Tryz.ntmps22;go_wp2_with fail
 generalize hCA: #[Value.int .i64 (a.kind:Int),.string ⟨a.key.toArray⟩,.string ⟨a.text.toArray⟩,.int .i64 a.num,.slice ada a.kids.length capa,.int .i64 (a.at':Int)]=CA;generalize hCB: #[Value.int .i64 (a.kind:Int),.string ⟨a.key.toArray⟩,.string ⟨a.text.toArray⟩,.int .i64 a.num,.slice adb a.kids.length capb,.int .i64 (b.at':Int)]=CB;have hK0:KAB w CA CB ((w.alloc (.cells CA 42)).alloc (.cells CB 42)):=by
  refine⟨by rw[heap_alloc_old _ _ (by simp),heap_alloc_new],?_,bal (bal (brf w) _) _⟩;have:=heap_alloc_new (w.alloc (.cells CA 42)) (.cells CB 42);simpa using this
 go_loopw [11] (fun xv wr=>∃j:Nat,j≤a.kids.length∧xv=.int .i64 (j:Int)∧KAB w CA CB wr) (fun xv _=>a.kids.length-(intOf xv).toNat)
 case atStart=>exact⟨0,by omega,rfl,hK0⟩
 case round=>
  clear hK0;obtain⟨j,hj,rfl,hK⟩:=hrel;have p0:wr.cell? ⟨w.heap.size,0,none⟩=some (.int .i64 (a.kind:Int)):=by rw[cell_of_row wr _ 0 _ _ _ hK.1,←hCA];rfl
  have p4:wr.cell? ⟨w.heap.size,4,none⟩=some (.slice ada a.kids.length capa):=by rw[cell_of_row wr _ 4 _ _ _ hK.1,←hCA];rfl
  have q4:wr.cell? ⟨w.heap.size+1,4,none⟩=some (.slice adb a.kids.length capb):=by rw[cell_of_row wr _ 4 _ _ _ hK.2.1,←hCB];rfl
  have HK:Hid (KAB w CA CB wr):=hK;clear hK;by_cases hlt:j<a.kids.length
  ·have k1:(j:Int)<(a.kids.length:Int):=by omega
   have hjb:(j:Int)≤1000000:=by omega
   obtain⟨p,hp⟩:∃p,a.kids[j]?=some p:=⟨_,List.getElem?_eq_getElem hlt⟩;obtain⟨y0,q,hq,hR,hn5,h5⟩:=HP.out.kid j p hp;have hy0:y0<a.kids.length:=by have:=(List.getElem?_eq_some_iff.1 hq).1;rw[HP.out.len]at this;exact this
   have ky:(y0:Int)<(a.kids.length:Int):=by omega
   obtain⟨ga,rfl,cA⟩:∃ga,ada=some ⟨ga,0,none⟩∧w.cell? ⟨ga,j,none⟩=some (.int .i64 (p:Int)):=by
    obtain⟨ad,cap,e,c⟩:=IA.out;injection e with e _ _;rw[e];exact c j p hp
   obtain⟨gb,rfl⟩:∃gb,adb=some ⟨gb,0,none⟩:=by
    obtain⟨ad,cap,e,c⟩:=IB.out;injection e with e _ _;obtain⟨gb,h,_⟩:=c y0 q hq;exact⟨gb,e.trans h⟩
   have cB:∀z q':Nat,b.kids[z]?=some q'→w.cell? ⟨gb,z,none⟩=some (.int .i64 (q':Int)):=fun z q' hz=>by
    obtain⟨ad,cap,e,c⟩:=IB.out;injection e with e _ _;obtain⟨gb',h,h'⟩:=c z q' hz;have:=e.trans h;injection this with this;injection this with this _ _;rw[this];exact h'
   have hpb:=HKA.out.1 p (List.mem_of_getElem? hp);have hqb:=HKA.out.2 q (List.mem_of_getElem? hq);have dA:wr.cell? ⟨ga,j,none⟩=some (.int .i64 (p:Int)):=cell_kp HK.out.2.2 cA;have dB:wr.cell? ⟨gb,y0,none⟩=some (.int .i64 (q:Int)):=cell_kp HK.out.2.2 (cB y0 q hq);have hy9:¬(a.kids.length:Int)≤(y0:Int):=by omega
   by_cases hk5:a.kind=5
   ·have k5:((a.kind:Int)==5)=true:=by simp[hk5]
    obtain⟨hkey,hother⟩:=h5 hk5;clear hn5 h5;have hnp:p<L.length:=hpb.2;obtain⟨np,hnp⟩:∃np,L[p]?=some np:=⟨_,List.getElem?_eq_getElem hpb.2⟩;have hcall:=hR;have kL:∀w',Below w.heap.size w w'→w'.cell? ⟨g1,p*6+1,none⟩=some (.string ⟨np.key.toArray⟩):=fun w' hb'=>by
     obtain⟨g',kv',e',_,_,_,z1,_⟩:=HL.out.1.at' p np hnp;have:g1=g':=by injection e' with e _ _;injection e with e;injection e with e _ _
     rw[this];exact cell_kp hb' z1
    have kM:∀z q',b.kids[z]?=some q'→∃nq,M[q']?=some nq∧∀w',Below w.heap.size w w'→w'.cell? ⟨g2,q'*6+1,none⟩=some (.string ⟨nq.key.toArray⟩):=fun z q' hz=>by
     have hqb':=HKA.out.2 q' (List.mem_of_getElem? hz);obtain⟨nq,hnq⟩:∃nq,M[q']?=some nq:=⟨_,List.getElem?_eq_getElem hqb'.2⟩;refine⟨nq,hnq,fun w' hb'=>?_⟩;obtain⟨g',kv',e',_,_,_,z1,_⟩:=HL.out.2.at' q' nq hnq;have:g2=g':=by injection e' with e _ _;injection e with e;injection e with e _ _
     rw[this];exact cell_kp hb' z1
    have HH:Hid ((∀y' q':Nat,y'<y0→b.kids[y']?=some q'→keyL M q'≠keyL L p)∧keyL M q=keyL L p∧b.kids[y0]?=some q∧L[p]?=some np∧(∀w',Below w.heap.size w w'→w'.cell? ⟨g1,p*6+1,none⟩=some (.string ⟨np.key.toArray⟩))∧(∀z q',b.kids[z]?=some q'→∃nq,M[q']?=some nq∧∀w',Below w.heap.size w w'→w'.cell? ⟨g2,q'*6+1,none⟩=some (.string ⟨nq.key.toArray⟩))∧(∀z q':Nat,b.kids[z]?=some q'→w.cell? ⟨gb,z,none⟩=some (.int .i64 (q':Int)))):=⟨hother,hkey,hq,hnp,kL,kM,cB⟩;have CA':Hid (w.cell? ⟨ga,j,none⟩=some (.int .i64 (p:Int))):=cA;have HR:Hid (AlkAt (.slice (some ⟨g1,0,none⟩) L.length cap1) (.slice (some ⟨g2,0,none⟩) M.length cap2) w p q):=hR;clear hother hkey hq hnp kL kM cB cA hcall dA dB hR hp;go_wp2_with fail
    clear p0 p4 q4;go_loopw [12] (fun yv wx=>∃z:Nat,z≤y0∧yv=.int .i64 (z:Int)∧KAB w CA CB wx) (fun yv _=>y0-(intOf yv).toNat)
    case atStart=>exact⟨0,by omega,rfl,HK.out⟩
    case round=>
     clear HK;obtain⟨z,hz,rfl,hK⟩:=hrel;have p0:wr.cell? ⟨w.heap.size,0,none⟩=some (.int .i64 (a.kind:Int)):=by rw[cell_of_row wr _ 0 _ _ _ hK.1,←hCA];rfl
     have p4:wr.cell? ⟨w.heap.size,4,none⟩=some (.slice (some ⟨ga,0,none⟩) a.kids.length capa):=by rw[cell_of_row wr _ 4 _ _ _ hK.1,←hCA];rfl
     have q4:wr.cell? ⟨w.heap.size+1,4,none⟩=some (.slice (some ⟨gb,0,none⟩) a.kids.length capb):=by rw[cell_of_row wr _ 4 _ _ _ hK.2.1,←hCB];rfl
     have dA:wr.cell? ⟨ga,j,none⟩=some (.int .i64 (p:Int)):=cell_kp hK.2.2 CA'.out;have c1:=HH.out.2.2.2.2.1 wr hK.2.2;by_cases hzl:z<y0
     ·have hzk:z<b.kids.length:=by rw[HP.out.len];omega
      obtain⟨q',hq'⟩:∃q',b.kids[z]?=some q':=⟨_,List.getElem?_eq_getElem hzk⟩;have dZ:wr.cell? ⟨gb,z,none⟩=some (.int .i64 (q':Int)):=cell_kp hK.2.2 (HH.out.2.2.2.2.2.2 z q' hq');obtain⟨mq,hmq,c2'⟩:=HH.out.2.2.2.2.2.1 z q' hq';have c2:=c2' wr hK.2.2;have hqb':=HKA.out.2 q' (List.mem_of_getElem? hq');have hdiff:(mq.key==np.key)=false:=by
       have:=HH.out.1 z q' hzl hq';rw[keyL_of hmq,keyL_of HH.out.2.2.2.1]at this;simp[this]
      have k3:(z:Int)<(a.kids.length:Int):=by omega
      have hzb:(z:Int)≤1000000:=by omega
      have k4:(q':Int)<(M.length:Int):=by omega
      have k5':(p:Int)<(L.length:Int):=by omega
      have k6:(p:Int)≤1000000:=by omega
      have k7:(q':Int)≤1000000:=by omega
      have HK:Hid (KAB w CA CB wr):=hK;clear hK c2' hmq hq';go_wp2_with fail
      go_quiet (fail);go_wp2_with fail
      go_roundw
      case rel=>exact⟨z+1,by omega,by go_num,HK.out.drewN nq⟩
      case measure=>simp[intOf];omega
     ·obtain rfl:z=y0:=by omega
      have dB:wr.cell? ⟨gb,z,none⟩=some (.int .i64 (q:Int)):=cell_kp hK.2.2 (HH.out.2.2.2.2.2.2 z q HH.out.2.2.1);obtain⟨mq,hmq,c2'⟩:=HH.out.2.2.2.2.2.1 z q HH.out.2.2.1;have c2:=c2' wr hK.2.2;have hsame:(mq.key==np.key)=true:=by
       have:=HH.out.2.1;rw[keyL_of hmq,keyL_of HH.out.2.2.2.1]at this;simp[this]
      have k3:(z:Int)<(a.kids.length:Int):=by omega
      have hzb:(z:Int)≤1000000:=by omega
      have k4:(q:Int)<(M.length:Int):=by omega
      have k5':(p:Int)<(L.length:Int):=by omega
      have k6:(p:Int)≤1000000:=by omega
      have k7:(q:Int)≤1000000:=by omega
      have HK:Hid (KAB w CA CB wr):=hK;clear hK c2' hmq;go_wp2_with fail
      go_quiet (fail);have hcall:=HR.out (wr.drewN nq).drew (by have:=((HK.out.drewN nq).drewN 1).2.2;exact this);have HK2:Hid (KAB w CA CB (wr.drewN nq)):=HK.out.drewN nq;clear HK;go_wp2_with fail
      go_region_with (go_at_call 22;refine hcall.mono ?_;rintro e w3 ⟨rfl,hb3⟩;have HK3:Hid (KAB w CA CB w3):=(HK2.out.drewN 1).below hb3;clear hb3)
      all_goals go_wp2_with fail
      all_goals have hk6:((a.kind:Nat):Int)=5:=by omega
      all_goals rw[hk6]
      all_goals refine⟨?_,by show a.kids.length-(intOf (.int .i64 ((j:Int)+1))).toNat<a.kids.length-(intOf (.int .i64 (j:Int))).toNat;simp only[intOf];omega⟩
      all_goals (repeat apply Exists.intro)
      all_goals refine⟨?_,rfl⟩
      all_goals exact⟨j+1,by omega,by go_num,HK3.out⟩
   ·have k5:((a.kind:Int)==5)=false:=by simp;omega
    obtain rfl:=hn5 hk5;clear h5 cA cB;have hcall:=hR wr.drew (by have:=(HK.out.drewN 1).2.2;exact this);go_wp2_with fail
    go_region_with (go_at_call 22;refine hcall.mono ?_;rintro e w3 ⟨rfl,hb3⟩;have HK3:Hid (KAB w CA CB w3):=(HK.out.drewN 1).below hb3;clear hb3)
    all_goals go_wp2_with fail
    all_goals exact⟨⟨y0+1,by omega,by go_num,HK3.out⟩,by simp only[intOf];omega⟩
  ·have k1:¬(j:Int)<(a.kids.length:Int):=by omega
   go_wp2;go_ret;exact⟨rfl,HK.out.2.2⟩
end Go.Proofs.YtbbopknnoamkbaaGreatDoor
