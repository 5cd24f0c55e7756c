import Derived.Test.YtaghclgookfmnaaGreatDoorCList
import Derived.Test.YtaghclgookfmnaaGreatDoorCPlain
namespace Go.Proofs.YtaghclgookfmnaaGreatDoor
open Go.RowKit
set_option linter.unusedVariables false
def arrV:Nat→List UInt8→Nat→JR JT
 | 0,_,i=>.error (5,i)
 | d+1,l,i=>arrL (valL d) l i
def objV:Nat→List UInt8→Nat→JR JT
 | 0,_,i=>.error (5,i)
 | d+1,l,i=>objL (valL d) l i
theorem valL_arr(d:Nat)(l:List UInt8)(i:Nat)(h:l.head?=some 91):valL d l i=arrV d l i:=by
 match l with
 | []=>cases h
 | c::r=>
   have hc:c=91:=by simpa using h
   subst hc;rw[valL_cons,if_neg (by decide),if_neg (by decide),if_neg (by decide),if_pos (by decide)];cases d with
   | zero=>rfl
   | succ d=>simp only[if_true];rfl
theorem valL_obj(d:Nat)(l:List UInt8)(i:Nat)(h:l.head?=some 123):valL d l i=objV d l i:=by
 match l with
 | []=>cases h
 | c::r=>
   have hc:c=123:=by simpa using h
   subst hc;rw[valL_cons,if_neg (by decide),if_neg (by decide),if_neg (by decide),if_pos (by decide)];cases d with
   | zero=>rfl
   | succ d=>rfl
theorem CN.drew{bp:Nat}{s:ByteArray}{i:Nat}{ns:List Nd}{dp:Nat}{vL:Value}{kvs:List Value}{w:World}(h:CN bp s i ns dp vL kvs w):CN bp s i ns dp vL kvs w.drew:=⟨h.cd,h.nk.kept fun _ _=>rfl⟩
theorem Chg.drew{bp:Nat}{O O':Nat→Prop}{w w':World}(h:Chg bp O w O' w'):Chg bp O w O' w'.drew:=⟨h.os,h.tape,h.output,h.size,h.block,h.own⟩
theorem BoxA.drew{b0 b1 bp u:Nat}{O:Nat→Prop}{w:World}(h:BoxA b0 b1 bp u O w):BoxA b0 b1 bp u O w.drew:=⟨h.h0,h.h1,h.n0,h.n1⟩
theorem GV.drew{w:World}(h:GV w):GV w.drew:=h.kept fun _ _=>rfl
section
variable (bp:Nat) (s:ByteArray) (i:Nat) (ns:List Nd) (key:List UInt8) (dp g cap:Nat) (kvs:List Value) (w:World)
set_option maxHeartbeats 2000000 in
theorem carray(d:Nat)(hv:dp<32→∃d',d=d'+1∧CVal d' (dp+1))(hd:dp=32→d=0)(hdp:dp≤32)(hs:s.size≤65536)(hbp:8≤bp)(h:CN bp s i (ns++[blank key i]) dp (.slice (some ⟨g,0,none⟩) (ns.length+1) cap) kvs w)(hG:GV w)(hc:(sfx s i).head?=some 91)(hl:ns.length≤i)(hw:WFk ns):Calls Tryz.prog 52 #[.pointer (some ⟨bp,0,none⟩),.int .i64 (ns.length:Int)] w fun r w'=>
 VQ bp s i ns key dp (own (.slice (some ⟨g,0,none⟩) (ns.length+1) cap) kvs) w (.tuple #[]) r w' (valL d (sfx s i) i):=by
 have hmf:∀(fn:Fn) (first cap:Array Value) (w:World),(Instr.makeFunc fn first cap).run Tryz.prog w=.ok (.func fn first cap) w:=fun _ _ _ _=>rfl
 have hi:=head_lt hc;have hsi:s[i]=91:=by rw[sfx_cons s i hi]at hc;simpa using hc
 have hlt:=h.cd.lt;have hkl:kvs.length=ns.length+1:=by have:=h.nk.1;simpa using this
 obtain⟨kv,hkv⟩:∃kv,kvs[ns.length]?=some kv:=⟨_,List.getElem?_eq_getElem (by omega)⟩;obtain⟨_,hgl,cur,hgc⟩:=ownBlock_lt h.nk.2.1 (g:=g) rfl;generalize hW:(w.alloc (.cells #[.pointer (some ⟨bp,0,none⟩)] 71)).alloc (.cells #[.int .i64 (ns.length:Int)] 3)=W;have hsz:W.heap.size=w.heap.size+2:=by subst hW;simp
 have hNW:CN bp s i (ns++[blank key i]) dp (.slice (some ⟨g,0,none⟩) (ns.length+1) cap) kvs W:=by subst hW;exact(h.alloc _).alloc _
 have hCW:Chg bp (own (.slice (some ⟨g,0,none⟩) (ns.length+1) cap) kvs) w (own (.slice (some ⟨g,0,none⟩) (ns.length+1) cap) kvs) W:=by subst hW;exact(chg_alloc bp _ w _).trans (chg_alloc bp _ _ _)
 have hBW:BoxA w.heap.size (w.heap.size+1) bp ns.length (own (.slice (some ⟨g,0,none⟩) (ns.length+1) cap) kvs) W:=by
  refine⟨?_,?_,⟨by omega,fun h'=>?_⟩,⟨by omega,fun h'=>?_⟩⟩
  ·subst hW;rw[heap_alloc_old _ _ (by simp),heap_alloc_new]
  ·subst hW;have:=heap_alloc_new (w.alloc (.cells #[.pointer (some ⟨bp,0,none⟩)] 71)) (.cells #[.int .i64 (ns.length:Int)] 3);simpa using this
  ·have:=(h.nk.own_lt h').2;omega
  ·have:=(h.nk.own_lt h').2;omega
 obtain⟨p0,pf0⟩:=hNW.nk.at (g:=g) rfl (u:=ns.length) (j:=0) (n:=blank key i) (x:=.int .i64 0) (by simp) hkv (by omega) rfl;rw[Nat.add_zero]at p0 pf0;have hput:=hNW.put (gL:=g) rfl (fun n=>{n with kind:=4}) 0 (.int .i64 4) (fun n kv=>rfl) (fun n=>rfl) (by omega) ns.length (by simp);rw[modify_last,Nat.add_zero]at hput;have hN4:CN bp s i (arrN ns none key i []) dp (.slice (some ⟨g,0,none⟩) (ns.length+1) cap) kvs (W.setCell ⟨g,ns.length*6,none⟩ (.int .i64 4)):=hput.1;have hC4:=hCW.trans hput.2;have hB4:=hBW.chg hput.2;have hG4:GV (W.setCell ⟨g,ns.length*6,none⟩ (.int .i64 4)):=hG.chg hC4 hbp hlt h.above;have H4:Hid _:=And.intro hN4 (And.intro hC4 (And.intro hB4 hG4));obtain⟨c0,c1,c2,c3,cf⟩:=hNW.cd.cell;have x0:W.cell? ⟨w.heap.size,0,none⟩=some (.pointer (some ⟨bp,0,none⟩)):=by rw[cell_of_row W _ 0 _ _ _ hBW.h0];rfl
 have x1:W.cell? ⟨w.heap.size+1,0,none⟩=some (.int .i64 (ns.length:Int)):=by rw[cell_of_row W _ 0 _ _ _ hBW.h1];rfl
 have nb0:¬g=w.heap.size:=by omega
 have HW:Hid _:=hW;clear hN4 hC4 hB4 hG4 hput hBW hNW hCW hkv hgc;have hnl:(ns.length:Int)<(ns.length:Int)+1:=by omega
 go_enter Tryz.func52,Tryz.ntmps52;go_wp2_with fail
 go_region
 have h4:Hid (CN bp s i (arrN ns none key i []) dp (.slice (some ⟨g,0,none⟩) (ns.length+1) cap) kvs (W.setCell ⟨g,ns.length*6,none⟩ (.int .i64 4)).drew∧Chg bp (own (.slice (some ⟨g,0,none⟩) (ns.length+1) cap) kvs) w (own (.slice (some ⟨g,0,none⟩) (ns.length+1) cap) kvs) (W.setCell ⟨g,ns.length*6,none⟩ (.int .i64 4)).drew∧BoxA w.heap.size (w.heap.size+1) bp ns.length (own (.slice (some ⟨g,0,none⟩) (ns.length+1) cap) kvs) (W.setCell ⟨g,ns.length*6,none⟩ (.int .i64 4)).drew∧GV (W.setCell ⟨g,ns.length*6,none⟩ (.int .i64 4)).drew):=⟨H4.out.1.drew,H4.out.2.1.drew,H4.out.2.2.1.drew,H4.out.2.2.2.drew⟩;clear p0 pf0 c0 c1 c2 c3 cf x0 x1 HW H4 hsz;generalize (W.setCell ⟨g,ns.length*6,none⟩ (.int .i64 4)).drew=w4 at h4;clear hW;have y0:w4.cell? ⟨w.heap.size,0,none⟩=some (.pointer (some ⟨bp,0,none⟩)):=by rw[cell_of_row w4 _ 0 _ _ _ h4.out.2.2.1.h0];rfl
 have hH:(sfx s i).head?=some 91:=hc;have HV:Hid (valL d (sfx s i) i=arrV d (sfx s i) i):=valL_arr d _ _ hc;by_cases hd32:dp=32
 ·have hd0:=hd hd32
  have HV2:Hid (valL d (sfx s i) i=.error (5,i)):=by have:=HV.out;rw[hd0]at this ⊢;exact this
  have hli:=clistA_deep bp s i key ns dp _ kvs w4 w.heap.size (w.heap.size+1) h4.out.1 hd32;unfold arrFv at hli;clear hv hd hd0 HV hd32;go_wp2_with fail
  refine hli.mono ?_;rintro r w5 ⟨rfl,rfl⟩;clear hli;go_wp2;refine⟨rfl,?_⟩;rw[HV2.out];exact⟨by omega,rfl,h4.out.2.1.drop⟩
 ·obtain⟨d',rfl,hv'⟩:=hv (by omega)
  have HV2:Hid (valL (d'+1) (sfx s i) i=arrL (valL d') (sfx s i) i):=HV.out;have hli:=clistA bp s i key ns dp _ kvs w4 w.heap.size (w.heap.size+1) d' hv' hs hbp h4.out.1 h4.out.2.2.2 hi hl hw (by omega) h4.out.2.2.1;unfold arrFv at hli;clear hv hd HV hv' hd32;cases hQ:arrL (valL d') (sfx s i) i with
  | error q=>
    obtain⟨e,a⟩:=q;rw[hQ]at hli;have HQ:Hid (valL (d'+1) (sfx s i) i=.error (e,a)):=by rw[←hQ];exact HV2.out
    clear hQ;go_wp2_with fail
    refine hli.mono ?_;rintro r w5 ⟨h0,rfl,h5⟩;have H5:Hid _:=And.intro h0 (h4.out.2.1.trans h5);clear hli h0 h5;go_wp2;refine⟨rfl,?_⟩;rw[HQ.out];exact⟨H5.out.1,rfl,H5.out.2⟩
  | ok q=>
    obtain⟨t,n⟩:=q;rw[hQ]at hli;have HQ:Hid (valL (d'+1) (sfx s i) i=.ok (t,n)):=by rw[←hQ];exact HV2.out
    clear hQ;go_wp2_with fail
    refine hli.mono ?_;rintro r w5 ⟨rfl,v5,k5,hN5,hC5⟩;have H5:Hid _:=And.intro hN5 (h4.out.2.1.trans hC5);clear hli hN5 hC5;go_wp2;go_end0
    rw[HQ.out];exact⟨rfl,v5,k5,H5.out.1,H5.out.2⟩
end
end Go.Proofs.YtaghclgookfmnaaGreatDoor
