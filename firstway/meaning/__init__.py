"""Pattern trees and their one meaning."""
