import Derived.Test.YtaghclgookfmnaaGreatDoorCListO
import Derived.Test.YtaghclgookfmnaaGreatDoorCArray
namespace Go.Proofs.YtaghclgookfmnaaGreatDoor
open Go.RowKit Go.Maps
set_option linter.unusedVariables false
section
variable (bp:Nat) (s:ByteArray) (i:Nat) (ns:List Nd) (key:List UInt8) (dp g cap:Nat) (kvs:List Value) (w:World)
set_option maxHeartbeats 2000000 in
theorem cobject(d:Nat)(hv:dp<32→∃d',d=d'+1∧CVal d' (dp+1))(hd:dp=32→d=0)(hdp:dp≤32)(hs:s.size≤65536)(hbp:8≤bp)(h:CN bp s i (ns++[blank key i]) dp (.slice (some ⟨g,0,none⟩) (ns.length+1) cap) kvs w)(hG:GV w)(hc:(sfx s i).head?=some 123)(hl:ns.length≤i)(hw:WFk ns):Calls Tryz.prog 51 #[.pointer (some ⟨bp,0,none⟩),.int .i64 (ns.length:Int)] w fun r w'=>
 VQ bp s i ns key dp (own (.slice (some ⟨g,0,none⟩) (ns.length+1) cap) kvs) w (.tuple #[]) r w' (valL d (sfx s i) i):=by
 have hmm:=@run_makeMap Tryz.prog;have hmf:∀(fn:Fn) (first cap:Array Value) (w:World),(Instr.makeFunc fn first cap).run Tryz.prog w=.ok (.func fn first cap) w:=fun _ _ _ _=>rfl
 have hi:=head_lt hc;have hsi:s[i]=123:=by rw[sfx_cons s i hi]at hc;simpa using hc
 have hlt:=h.cd.lt;have hkl:kvs.length=ns.length+1:=by have:=h.nk.1;simpa using this
 obtain⟨kv,hkv⟩:∃kv,kvs[ns.length]?=some kv:=⟨_,List.getElem?_eq_getElem (by omega)⟩;obtain⟨_,hgl,cur,hgc⟩:=ownBlock_lt h.nk.2.1 (g:=g) rfl;generalize hW:(w.alloc (.cells #[.pointer (some ⟨bp,0,none⟩)] 71)).alloc (.cells #[.int .i64 (ns.length:Int)] 3)=W;have hsz:W.heap.size=w.heap.size+2:=by subst hW;simp
 have hNW:CN bp s i (ns++[blank key i]) dp (.slice (some ⟨g,0,none⟩) (ns.length+1) cap) kvs W:=by subst hW;exact(h.alloc _).alloc _
 have hCW:Chg bp (own (.slice (some ⟨g,0,none⟩) (ns.length+1) cap) kvs) w (own (.slice (some ⟨g,0,none⟩) (ns.length+1) cap) kvs) W:=by subst hW;exact(chg_alloc bp _ w _).trans (chg_alloc bp _ _ _)
 have hBW:BoxA w.heap.size (w.heap.size+1) bp ns.length (own (.slice (some ⟨g,0,none⟩) (ns.length+1) cap) kvs) W:=by
  refine⟨?_,?_,⟨by omega,fun h'=>?_⟩,⟨by omega,fun h'=>?_⟩⟩
  ·subst hW;rw[heap_alloc_old _ _ (by simp),heap_alloc_new]
  ·subst hW;have:=heap_alloc_new (w.alloc (.cells #[.pointer (some ⟨bp,0,none⟩)] 71)) (.cells #[.int .i64 (ns.length:Int)] 3);simpa using this
  ·have:=(h.nk.own_lt h').2;omega
  ·have:=(h.nk.own_lt h').2;omega
 obtain⟨p0,pf0⟩:=hNW.nk.at (g:=g) rfl (u:=ns.length) (j:=0) (n:=blank key i) (x:=.int .i64 0) (by simp) hkv (by omega) rfl;rw[Nat.add_zero]at p0 pf0;have hput:=hNW.put (gL:=g) rfl (fun n=>{n with kind:=5}) 0 (.int .i64 5) (fun n kv=>rfl) (fun n=>rfl) (by omega) ns.length (by simp);rw[modify_last,Nat.add_zero]at hput;have hN4:CN bp s i (objN ns none key i []) dp (.slice (some ⟨g,0,none⟩) (ns.length+1) cap) kvs (W.setCell ⟨g,ns.length*6,none⟩ (.int .i64 5)):=hput.1;have hC4:=hCW.trans hput.2;have hB4:=hBW.chg hput.2;have hG4:GV (W.setCell ⟨g,ns.length*6,none⟩ (.int .i64 5)):=hG.chg hC4 hbp hlt h.above;have H4:Hid _:=And.intro hN4 (And.intro hC4 (And.intro hB4 hG4));obtain⟨c0,c1,c2,c3,cf⟩:=hNW.cd.cell;have x0:W.cell? ⟨w.heap.size,0,none⟩=some (.pointer (some ⟨bp,0,none⟩)):=by rw[cell_of_row W _ 0 _ _ _ hBW.h0];rfl
 have x1:W.cell? ⟨w.heap.size+1,0,none⟩=some (.int .i64 (ns.length:Int)):=by rw[cell_of_row W _ 0 _ _ _ hBW.h1];rfl
 have nb0:¬g=w.heap.size:=by omega
 have HW:Hid _:=hW;clear hN4 hC4 hB4 hG4 hput hBW hNW hCW hkv hgc;have hnl:(ns.length:Int)<(ns.length:Int)+1:=by omega
 go_enter Tryz.func51,Tryz.ntmps51;go_wp2_with fail
 go_region
 have h4:Hid (CN bp s i (objN ns none key i []) dp (.slice (some ⟨g,0,none⟩) (ns.length+1) cap) kvs (W.setCell ⟨g,ns.length*6,none⟩ (.int .i64 5)).drew∧Chg bp (own (.slice (some ⟨g,0,none⟩) (ns.length+1) cap) kvs) w (own (.slice (some ⟨g,0,none⟩) (ns.length+1) cap) kvs) (W.setCell ⟨g,ns.length*6,none⟩ (.int .i64 5)).drew∧BoxA w.heap.size (w.heap.size+1) bp ns.length (own (.slice (some ⟨g,0,none⟩) (ns.length+1) cap) kvs) (W.setCell ⟨g,ns.length*6,none⟩ (.int .i64 5)).drew∧GV (W.setCell ⟨g,ns.length*6,none⟩ (.int .i64 5)).drew):=⟨H4.out.1.drew,H4.out.2.1.drew,H4.out.2.2.1.drew,H4.out.2.2.2.drew⟩;clear p0 pf0 c0 c1 c2 c3 cf x0 x1 HW H4 hsz;generalize (W.setCell ⟨g,ns.length*6,none⟩ (.int .i64 5)).drew=w4 at h4;clear hW;obtain⟨hN4,hC4,hB4,hG4⟩:=h4.out;have hbs:w.heap.size+2≤w4.heap.size:=by have:=(Array.getElem?_eq_some_iff.1 hB4.h1).1;omega
 generalize hW6:(w4.alloc (.map #[] 0)).alloc (.cells #[.map (some w4.heap.size)] 99)=W6;have hsz6:W6.heap.size=w4.heap.size+2:=by subst hW6;simp
 have hN6:CN bp s i (objN ns none key i []) dp (.slice (some ⟨g,0,none⟩) (ns.length+1) cap) kvs W6:=by subst hW6;exact(hN4.alloc _).alloc _
 have hC6:Chg bp (own (.slice (some ⟨g,0,none⟩) (ns.length+1) cap) kvs) w (own (.slice (some ⟨g,0,none⟩) (ns.length+1) cap) kvs) W6:=by subst hW6;exact hC4.trans ((chg_alloc bp _ w4 _).trans (chg_alloc bp _ _ _))
 have hG6:GV W6:=hG.chg hC6 hbp hlt h.above;have hM6:NM w4.heap.size [] W6:=by
  subst hW6;exact World.ownsMap.alloc (World.ownsMap_made w4 Tryz.prog 9 (unitElem (H:=Unit))) _
 have hm6:W6.heap[w4.heap.size+1]?=some (.cells #[.map (some w4.heap.size)] 99 (0,0)):=by
  subst hW6;have:=heap_alloc_new (w4.alloc (.map #[] 0)) (.cells #[.map (some w4.heap.size)] 99);simpa using this
 have hold:∀k,k<w4.heap.size→W6.heap[k]?=w4.heap[k]?:=by
  intro k hk;subst hW6;rw[heap_alloc_old _ _ (by simp;omega),heap_alloc_old _ _ hk]
 have hB6:BoxO w.heap.size (w4.heap.size+1) (w.heap.size+1) bp w4.heap.size ns.length (own (.slice (some ⟨g,0,none⟩) (ns.length+1) cap) kvs) W6:=by
  refine⟨(hold _ (by omega)).trans hB4.h0,hm6,(hold _ (by omega)).trans hB4.h1,⟨hB4.n0.1,by omega,hB4.n0.2⟩,⟨by omega,by omega,fun h'=>?_⟩,⟨hB4.n1.1,by omega,hB4.n1.2⟩,⟨by omega,fun h'=>?_,by omega⟩⟩
  ·have:=(hN4.nk.own_lt h').2;omega
  ·have:=(hN4.nk.own_lt h').2;omega
 have y0:W6.cell? ⟨w.heap.size,0,none⟩=some (.pointer (some ⟨bp,0,none⟩)):=by rw[cell_of_row W6 _ 0 _ _ _ hB6.h0];rfl
 have H6:Hid _:=And.intro hN6 (And.intro hC6 (And.intro hG6 (And.intro hM6 hB6)));have hgm:8≤w4.heap.size:=by omega
 have h0m:w.heap.size≤w4.heap.size:=by omega
 clear hN4 hC4 hB4 hG4 hsz6 hN6 hC6 hG6 hM6 hm6 hold hB6 h4;have HV:Hid (valL d (sfx s i) i=objV d (sfx s i) i):=valL_obj d _ _ hc;by_cases hd32:dp=32
 ·have hd0:=hd hd32
  have HV2:Hid (valL d (sfx s i) i=.error (5,i)):=by have:=HV.out;rw[hd0]at this ⊢;exact this
  have hli:=clistO_deep bp s i key ns dp _ kvs W6 w.heap.size (w4.heap.size+1) (w.heap.size+1) H6.out.1 hd32;unfold objFv at hli;clear hv hd hd0 HV hd32;go_wp2_with fail
  refine hli.mono ?_;rintro r w5 ⟨rfl,rfl⟩;clear hli;go_wp2;refine⟨rfl,?_⟩;rw[HV2.out];exact⟨by omega,rfl,H6.out.2.1.drop⟩
 ·obtain⟨d',rfl,hv'⟩:=hv (by omega)
  have HV2:Hid (valL (d'+1) (sfx s i) i=objL (valL d') (sfx s i) i):=HV.out;have hli:=clistO bp s i key ns dp _ kvs W6 w.heap.size (w4.heap.size+1) (w.heap.size+1) w4.heap.size w (own (.slice (some ⟨g,0,none⟩) (ns.length+1) cap) kvs) d' hv' hs hbp H6.out.1 H6.out.2.2.1 hi hl hw (by omega) H6.out.2.2.2.2 H6.out.2.2.2.1 hgm h0m H6.out.2.1;unfold objFv at hli;clear hv hd HV hv' hd32;cases hQ:objL (valL d') (sfx s i) i with
  | error q=>
    obtain⟨e,a⟩:=q;rw[hQ]at hli;have HQ:Hid (valL (d'+1) (sfx s i) i=.error (e,a)):=by rw[←hQ];exact HV2.out
    clear hQ;go_wp2_with fail
    refine hli.mono ?_;rintro r w5 ⟨h0,rfl,h5⟩;have H5:Hid _:=And.intro h0 h5;clear hli h0 h5;go_wp2;refine⟨rfl,?_⟩;rw[HQ.out];exact⟨H5.out.1,rfl,H5.out.2⟩
  | ok q=>
    obtain⟨t,n⟩:=q;rw[hQ]at hli;have HQ:Hid (valL (d'+1) (sfx s i) i=.ok (t,n)):=by rw[←hQ];exact HV2.out
    clear hQ;go_wp2_with fail
    refine hli.mono ?_;rintro r w5 ⟨rfl,v5,k5,hN5,hC5⟩;have H5:Hid _:=And.intro hN5 hC5;clear hli hN5 hC5;go_wp2;go_end0
    rw[HQ.out];exact⟨rfl,v5,k5,H5.out.1,H5.out.2⟩
end
end Go.Proofs.YtaghclgookfmnaaGreatDoor
